import Derived.Test.YtfoimmnlojjfbaaGreatDoorKGenT
namespace Go.Proofs.YtfoimmnlojjfbaaGreatDoor
open Go.RowKit
def Gn.Mk : Prop:=True
theorem Gn.k18z (q:Nat) (loops:Int) {k:Int} (h:0≤k∧k < 18):(k=0∧True∧Gn.Mk)∨(k=1∧True∧Gn.Mk)∨(k=2∧True∧Gn.Mk)∨(k=3∧(0:Int) < (q:Int)∧Gn.Mk)∨(k=3∧¬ (0:Int) < (q:Int)∧Gn.Mk)∨(k=4∧(0:Int) < (q:Int)∧Gn.Mk)∨(k=4∧¬ (0:Int) < (q:Int)∧Gn.Mk)∨(k=5∧True∧Gn.Mk)∨(k=6∧True∧Gn.Mk)∨(k=7∧True∧Gn.Mk)∨(k=8∧True∧Gn.Mk)∨(k=9∧0 < loops∧Gn.Mk)∨(k=9∧¬ 0 < loops∧Gn.Mk)∨(k=10∧True∧Gn.Mk)∨(k=11∧(0:Int) < (q:Int)∧Gn.Mk)∨(k=11∧¬ (0:Int) < (q:Int)∧Gn.Mk)∨(k=12∧(0:Int) < (q:Int)∧Gn.Mk)∨(k=12∧¬ (0:Int) < (q:Int)∧Gn.Mk)∨(k=13∧True∧Gn.Mk)∨(k=14∧True∧Gn.Mk)∨(k=15∧True∧Gn.Mk)∨(k=16∧True∧Gn.Mk)∨(k=17∧0 < loops∧Gn.Mk)∨(k=17∧¬ 0 < loops∧Gn.Mk):=by
 simp only [Gn.Mk,and_true]
 omega
theorem Gn.k18n (q:Nat) (loops:Int) {k:Int} (h:0≤k∧k < 18):(k=0∧True∧Gn.Mk)∨(k=1∧True∧Gn.Mk)∨(k=2∧True∧Gn.Mk)∨(k=3∧(0:Int) < (q:Int)∧Gn.Mk)∨(k=3∧¬ (0:Int) < (q:Int)∧Gn.Mk)∨(k=4∧(0:Int) < (q:Int)∧Gn.Mk)∨(k=4∧¬ (0:Int) < (q:Int)∧Gn.Mk)∨(k=5∧True∧Gn.Mk)∨(k=6∧True∧Gn.Mk)∨(k=7∧True∧Gn.Mk)∨(k=8∧True∧Gn.Mk)∨(k=9∧0 < loops∧Gn.Mk)∨(k=9∧¬ 0 < loops∧Gn.Mk)∨(k=10∧True∧Gn.Mk)∨(k=11∧True∧Gn.Mk)∨(k=12∧True∧Gn.Mk)∨(k=13∧True∧Gn.Mk)∨(k=14∧True∧Gn.Mk)∨(k=15∧loops < 2∧Gn.Mk)∨(k=15∧¬ loops < 2∧Gn.Mk)∨(k=16∧loops < 2∧Gn.Mk)∨(k=16∧¬ loops < 2∧Gn.Mk)∨(k=17∧loops < 2∧Gn.Mk)∨(k=17∧¬ loops < 2∧Gn.Mk):=by
 simp only [Gn.Mk,and_true]
 omega
theorem Gn.ty_of {t:Int} (h:1≤t∧t≤10):Gn.ty t:=by unfold Gn.ty;omega
theorem Gn.wrB {v n:Int} (h:0≤v∧v < n) (hn:n≤3):wrap64 (14+v)=14+v:=IntWalk.wrap64_in _ (by omega)
theorem Gn.nat5 {v:Nat} (h:(v:Int) < 5):v < 5:=by omega
theorem Gn.len_le (nl:List (ByteArray × Int)) (x:ByteArray × Int):nl.length≤(nl++[x]).length:=by simp
theorem Gn.cond_le {P Q:Nat} (b:Bool):P+1+cond b (3 * Q) 0≤P+1+3 * Q:=by cases b <;> simp
theorem Gn.tab_fr {B:Nat} {w w1:World} {cs:Array Value} {T M:Nat} (hf:Gn.Fr B (w.alloc (.cells cs T)) w1) (hT:T≠44∧T≠121) (hM:cs.toList.all (Mill.strB M)=true) (v:Nat) (hv:v < cs.size):∃ t:ByteArray,w1.cell? ⟨w.heap.size,v,none⟩=some (.string t)∧t.size≤M:=by
 have hb:=hf.blk (World.alloc_heap_new w _) hT
 obtain ⟨t,ht,hs⟩:=Mill.strB_of (List.all_eq_true.1 hM cs[v] (by simp))
 exact ⟨t,by simp [World.cell?,hb,hv,ht],hs⟩
theorem Gn.St.loc {B g R P bx:Nat} {W:World} {nv:Value} {nl:List (ByteArray × Int)} {fv:Value} {F:List Gn.Sg} {ret loops count size:Int} (h:Gn.St B g R P W nv nl fv F ret loops count size) {v0 v1:Value} (hx:W.heap[bx]? = some (.cells #[v0,v1] 140)) (hn:∀ k,nv.ownBlock=some k→k≠bx) (hg:g < bx) (s:ByteArray) (t:Int) :
  Gn.St B g R P ((W.setCell ⟨bx,0,none⟩ (.string s)).setCell ⟨bx,1,none⟩ (.int .i64 t)) nv nl fv F ret loops count size∧Gn.Fw B W ((W.setCell ⟨bx,0,none⟩ (.string s)).setCell ⟨bx,1,none⟩ (.int .i64 t))∧((W.setCell ⟨bx,0,none⟩ (.string s)).setCell ⟨bx,1,none⟩ (.int .i64 t)).heap[bx]? = some (.cells #[.string s,.int .i64 t] 140):=by
 have hlo:=h.lo
 have hoth:∀ k,k≠bx→((W.setCell ⟨bx,0,none⟩ (.string s)).setCell ⟨bx,1,none⟩ (.int .i64 t)).heap[k]? = W.heap[k]?:=fun k hk=>(Gn.set_oth hk).trans (Gn.set_oth hk)
 have hf:Gn.Fw B W ((W.setCell ⟨bx,0,none⟩ (.string s)).setCell ⟨bx,1,none⟩ (.int .i64 t)):=⟨rfl,rfl,rfl,by simp [World.setCell],fun j hj hp=>hoth j (fun e=>by
  subst e
  rcases hp with hp | hp
  ·omega
  ·exact (hp _ _ _ hx).2.2 rfl)⟩
 obtain ⟨p,hp,hr⟩:=h.rd
 refine ⟨⟨h.lo,⟨p,hp,Gn.Rd_keep hr (fun j hj=>hoth j (by omega))⟩,(hoth g (by omega)).trans h.box,Gn.own_keep h.names (fun k hk _ _=>hoth k (hn k hk)),h.nbd,h.fns.fw hf,h.bd⟩,hf, ?_⟩
 rw [Gn.set_same (Gn.set_same hx)];rfl
theorem Gn.itab2 {W:World} {b T:Nat} {x y:Int} (h:W.heap[b]? = some (.cells #[.int .i64 x,.int .i64 y] T)) {v:Nat} (hv:(v:Int) < 2):∃ t:Int,W.cell? ⟨b,v,none⟩=some (.int .i64 t):=by
 have hd:v=0∨v=1:=by omega
 rcases hd with rfl | rfl
 ·exact ⟨x,by rw [Lib.cell_of_heap h];rfl⟩
 ·exact ⟨y,by rw [Lib.cell_of_heap h];rfl⟩
theorem Gn.nm_S {B g R P b q nc:Nat} {W:World} {nl:List (ByteArray × Int)} {fv:Value} {F:List Gn.Sg} {ret loops count size:Int} (h:Gn.St B g R P W (.slice (some ⟨b,0,none⟩) q nc) nl fv F ret loops count size) (hq:nl.length=q):(W.cell? ⟨g,0,none⟩=some (.pointer (some ⟨R,0,none⟩))∧W.cell? ⟨g,1,none⟩=some (.slice (some ⟨b,0,none⟩) q nc))∧∀ i (hi:i < nl.length),W.cell? ⟨b,i * 2,none⟩=some (.string nl[i].1)∧W.cell? ⟨b,i * 2+1,none⟩=some (.int .i64 nl[i].2):=by
 refine ⟨⟨h.cells.1,h.cells.2.1⟩,fun i hi => ?_⟩
 obtain ⟨b',e,h1,h2⟩:=Gn.name_cell h.names hq i (by omega)
 injection e with e;injection e with e;subst e
 exact ⟨h1,h2⟩
theorem Gn.nm_ca {g R b q nc:Nat} {W:World} {o:Obj} {nl:List (ByteArray × Int)} (h:(W.cell? ⟨g,0,none⟩=some (.pointer (some ⟨R,0,none⟩))∧W.cell? ⟨g,1,none⟩=some (.slice (some ⟨b,0,none⟩) q nc))∧∀ i (hi:i < nl.length),W.cell? ⟨b,i * 2,none⟩=some (.string nl[i].1)∧W.cell? ⟨b,i * 2+1,none⟩=some (.int .i64 nl[i].2)):((W.alloc o).cell? ⟨g,0,none⟩=some (.pointer (some ⟨R,0,none⟩))∧(W.alloc o).cell? ⟨g,1,none⟩=some (.slice (some ⟨b,0,none⟩) q nc))∧∀ i (hi:i < nl.length),(W.alloc o).cell? ⟨b,i * 2,none⟩=some (.string nl[i].1)∧(W.alloc o).cell? ⟨b,i * 2+1,none⟩=some (.int .i64 nl[i].2) :=
 ⟨⟨Gn.ca h.1.1,Gn.ca h.1.2⟩,fun i hi=>⟨Gn.ca (h.2 i hi).1,Gn.ca (h.2 i hi).2⟩⟩
theorem Gn.call2 {B g R P:Nat} {w:World} {nv:Value} {nl:List (ByteArray × Int)} {fv:Value} {F:List Gn.Sg} {ret loops count size:Int} (HE:Hid (Gn.ExprIs B g R 1)) (h:Gn.St B g R P w nv nl fv F ret loops count size) (hP:P+3 * Gn.eb 1+1≤700000000) (t:Int) :
  Calls Tryz.prog 119 #[.pointer (some ⟨g,0,none⟩),.int .i64 t,.int .i64 2] w (Gn.CallPost B g R P (Gn.eb 1) (3 * Gn.eb 1+1) w nv nl fv F ret loops count):=Gn.call_any HE h hP t
theorem Gn.cond_d {B g R m:Nat} {d:Int} (HC:Gn.CondIs B g R m) (hd:d=(m:Int)) {P:Nat} {w:World} {nv:Value} {nl:List (ByteArray × Int)} {fv:Value} {F:List Gn.Sg} {ret loops count size:Int} (h:Gn.St B g R P w nv nl fv F ret loops count size) (hP:P+Gn.cb m≤700000000) :
  Calls Tryz.prog 120 #[.pointer (some ⟨g,0,none⟩),.int .i64 d] w (Gn.BPost B g R (P+Gn.cb m) (Gn.cb m) w nl fv F ret loops):=by subst hd;exact HC P w nv nl fv F ret loops count size h hP
theorem Gn.loop_d {B g R m n:Nat} {d:Int} (HL:Hid (Gn.SomeIs B g R n)) (hd:d=(m:Int)) (hm:((m:Int) - 1).toNat=n) (hm1:m≤100) {P:Nat} {w:World} {nv:Value} {nl:List (ByteArray × Int)} {fv:Value} {F:List Gn.Sg} {ret loops count size:Int} (h:Gn.St B g R P w nv nl fv F ret loops count size) (hP:P+4 * Gn.mb n≤700000000) :
  Calls Tryz.prog 121 #[.pointer (some ⟨g,0,none⟩),.int .i64 d] w (Gn.BPost B g R (P+4 * Gn.mb n) (4 * Gn.mb n) w nl fv F ret loops):=by subst hd;exact Gn.loop_any B g R n HL m hm hm1 h hP
end Go.Proofs.YtfoimmnlojjfbaaGreatDoor
