import Derived.Test.YtfoimmnlojjfbaaGreatDoorKGenU
import Derived.Test.YtfoimmnlojjfbaaGreatDoorKGenX
import Derived.Test.YtfoimmnlojjfbaaGreatDoorKGenV
namespace Go.Proofs.YtfoimmnlojjfbaaGreatDoor
open Go.RowKit
theorem Gn.stmt_any (B g R:Nat) (n:Nat):n≤100→Gn.StmtIs B g R n:=by
 induction n using Nat.strongRecOn with
 | ind n ih =>
  intro hn
  cases n with
  | zero=>exact Gn.stmt_zero B g R
  | succ k =>
   have hs:∀ m,m≤k→Gn.SomeIs B g R m:=fun m hm=>Gn.some_any B g R m (ih m (by omega) (by omega))
   exact Gn.stmt_next B g R k (k+1) (Gn.cond_any B g R (k+1) hn (fun m hm=>hs m (by omega))) (hs k (Nat.le_refl _)) rfl hn
theorem Gn.someAt (B g R n:Nat) (hn:n≤100):Gn.SomeIs B g R n:=Gn.some_any B g R n (Gn.stmt_any B g R n hn)
theorem Gn.Fw.blk {B:Nat} {U U':World} (hf:Gn.Fw B U U') {b:Nat} {cur:Array Value} {t:TypeId} (h:U.heap[b]? = some (.cells cur t)) (ht:t≠44∧t≠121∧t≠140):U'.heap[b]? = some (.cells cur t) :=
 (hf.keep b (Array.getElem?_eq_some_iff.1 h).1 (.inr (fun c2 t2 fr hc=>by rw [h] at hc;injection hc with hc;injection hc with _ hc _;rw [← hc];exact ht))).trans h
theorem Gn.St.clear {B g R P:Nat} {w:World} {nv:Value} {nl:List (ByteArray × Int)} {fv:Value} {F:List Gn.Sg} {ret loops count size:Int} (h:Gn.St B g R P w nv nl fv F ret loops count size) :
  Gn.St B g R P ((w.alloc (.cells #[] 140)).setCell ⟨g,1,none⟩ (.slice (some ⟨w.heap.size,0,none⟩) 0 0)) (.slice (some ⟨w.heap.size,0,none⟩) 0 0) [] fv F ret loops count size∧Gn.Fw B w ((w.alloc (.cells #[] 140)).setCell ⟨g,1,none⟩ (.slice (some ⟨w.heap.size,0,none⟩) 0 0)):=by
 have hb:Below w.heap.size w (w.alloc (.cells #[] 140)):=(Below.refl _ w).alloc (Nat.le_refl _) _
 have hg:g < w.heap.size:=(Array.getElem?_eq_some_iff.1 h.box).1
 have hV:=h.below hb
 have hnew:(w.alloc (.cells #[] 140)).heap[w.heap.size]? = some (.cells #[] 140):=World.alloc_heap_new w _
 generalize w.alloc (.cells #[] 140)=V at hV hb hnew ⊢
 have hlo:=hV.lo
 have hf:Gn.Fw B V (V.setCell ⟨g,1,none⟩ (.slice (some ⟨w.heap.size,0,none⟩) 0 0)):=⟨rfl,rfl,rfl,by simp [World.setCell],fun j hj hp=>Gn.set_oth (fun e=>by
  subst e
  rcases hp with hp | hp
  ·omega
  ·exact (hp _ _ _ hV.box).2.1 rfl)⟩
 obtain ⟨p,hp,hr⟩:=hV.rd
 refine ⟨⟨h.lo,⟨p,by omega,Gn.Rd_keep hr (fun j hj=>Gn.set_oth (by omega))⟩,by rw [Gn.set_same hV.box];rfl,⟨rfl,.inr ⟨w.heap.size,0,#[],rfl,by omega,(Gn.set_oth (by omega)).trans hnew,Nat.le_refl _,by unfold maxLen;omega,rfl,rfl⟩⟩,⟨by simp,by simp⟩,hV.fns.fw hf,hV.bd⟩,(Gn.Fw.of_below hb).trans hf⟩
theorem Gn.St.setRet {B g R P:Nat} {w:World} {nv:Value} {nl:List (ByteArray × Int)} {fv:Value} {F:List Gn.Sg} {ret loops count size:Int} (h:Gn.St B g R P w nv nl fv F ret loops count size) (r:Int) (hr:Gn.ty r):Gn.St B g R P (w.setCell ⟨g,3,none⟩ (.int .i64 r)) nv nl fv F r loops count size∧Gn.Fw B w (w.setCell ⟨g,3,none⟩ (.int .i64 r)):=by
 have hb:=h.bd
 exact h.putW (by omega) 3 _ rfl ⟨hr,by omega,by omega,by omega⟩
theorem Gn.St.setLoops {B g R P:Nat} {w:World} {nv:Value} {nl:List (ByteArray × Int)} {fv:Value} {F:List Gn.Sg} {ret loops count size:Int} (h:Gn.St B g R P w nv nl fv F ret loops count size):Gn.St B g R P (w.setCell ⟨g,4,none⟩ (.int .i64 0)) nv nl fv F ret 0 count size∧Gn.Fw B w (w.setCell ⟨g,4,none⟩ (.int .i64 0)):=by
 have hb:=h.bd
 exact h.putW (by omega) 4 _ rfl ⟨hb.1,by omega,by omega,by omega⟩
theorem Gn.step_name {w:World} {ops:Array Oper} {o:Oper} {a:Act} {K:Act→World→Prop} {Q:Exit→Act→World→Prop} {E:Prop} (hgd:o.guard=none) (s x:Operand)
  (ho:o.op = .call { callee:=.builtin .append,args := #[s,x],argTypes := #[118,118] }) {B g R P:Nat} {nv:Value} {nl:List (ByteArray × Int)} {fv:Value} {F:List Gn.Sg} {ret loops count size:Int} (hst:Gn.St B g R P w nv nl fv F ret loops count size) (t:ByteArray) (ty:Int) (ht:t.size≤30) (hty:Gn.ty ty) (hP:P≤900000000) {V:World} {b:Nat} (hb:Below w.heap.size w V) (hV:V.heap[b]? = some (.cells #[.string t,.int .i64 ty] 140))
  (hs:a.eval s=nv) (hx:a.eval x = .slice (some ⟨b,0,none⟩) 1 1)
  (h:∀ a' c' w',(w'.cell? ⟨g,1,none⟩=some nv∧w'.frozen? ⟨g,1,none⟩=false)→Gn.St B g R (P+1) (w'.setCell ⟨g,1,none⟩ (.slice a' (nl.length+1) c')) (.slice a' (nl.length+1) c') (nl++[(t,ty)]) fv F ret loops count size→Gn.Fw B w (w'.setCell ⟨g,1,none⟩ (.slice a' (nl.length+1) c'))→Gn.Fw B w w'→K (a.put o.dst (.slice a' (nl.length+1) c')) w') :
  if Region.wanted o (yielded ops a.tmps)=true then Oper.wp Tryz.prog o a V K Q else E:=by
 have hwt:Region.wanted o (yielded ops a.tmps)=true:=by simp [Region.wanted,hgd]
 rw [if_pos hwt]
 obtain ⟨i0,hi0,hy0,hy1,hy2⟩:=info_parts Gn.infoName
 have hsz:=hb.size
 have hV2:=hst.below hb
 have hgl:g < w.heap.size:=(Array.getElem?_eq_some_iff.1 hst.box).1
 have hsrc:Gn.Src V (some ⟨b,0,none⟩) 1 [.string t,.int .i64 ty]:=fun _=>⟨_,rfl,fun k u hk=>by
  rw [Gn.add_at,Lib.cell_of_heap hV]
  simpa using hk⟩
 have hnb:=hst.nbd.1
 obtain ⟨v6,w6,hr,hown6,hg6⟩:=Gn.run_append_any (P:=Tryz.prog) (w:=V) g 118 o.type 140 i0 (.agg #[.string ⟨#[]⟩,.int .i64 0]) 2 24 Tryz.underlying118 hi0 hy0 hy1 hy2 rfl (by decide) nv _ _ hV2.names (some ⟨b,0,none⟩) 1 1 [.string t,.int .i64 ty] rfl hsrc (by intro u hu;simp at hu;rcases hu with rfl | rfl <;> rfl) (by unfold maxLen;omega) (by omega) (by omega)
 obtain ⟨hs5,hf5⟩:=hst.addName t ty ht hty hb hown6 hg6
 obtain ⟨a7,c7,e7⟩:=Gn.rowLen hown6
 subst e7
 have hbx:w6.heap[g]? = V.heap[g]?:=hg6.block g (by omega) (fun e=>by
  obtain ⟨_,c1,hc1⟩:=Gn.row_type hV2.names e.symm
  rw [hV2.box] at hc1;injection hc1 with hc1;injection hc1 with _ hc1 _;exact absurd hc1 (by decide))
 rw [hV2.box] at hbx
 have hf6:Gn.Fw B V w6:=⟨hg6.os,hg6.tape,hg6.output,hg6.size,fun k hk hp=>hg6.block k hk (fun e=>by
  obtain ⟨hk1,c1,hc1⟩:=Gn.row_type hV2.names e.symm
  rcases hp with hp | hp
  ·have:=hst.lo;omega
  ·exact (hp _ _ _ hc1).2.2 rfl)⟩
 unfold Oper.wp execOp
 simp only [ho,resolve,invoke,builtin,Sem.run_bind,Sem.run_pure,Result.andThen_ok,List.map_toArray,List.map_cons,List.map_nil,hs,hx,hr]
 exact h a7 c7 w6 ⟨by rw [Lib.cell_of_heap hbx];rfl,by simp [World.frozen?,hbx]⟩ hs5 hf5 ((Gn.Fw.of_below hb).trans hf6)
def Gn.FPost (B g R P K:Nat) (w:World) (fv:Value) (F:List Gn.Sg) (res:Int) (e:Ending) (w':World):Prop := ∃ a m c nv' nl' count' size',e = .returned (.slice a m c)∧Gn.Row w.heap.size w' (.slice a m c) K∧Gn.St B g R P w' nv' nl' fv F res 0 count' size'∧Gn.Fw B w w'
theorem Gn.wrkk {k j:Int} (h:0≤k∧k≤6) (h2:0≤j∧j≤6):wrap64 (k+j)=k+j:=IntWalk.wrap64_in _ (by omega)
theorem Gn.wrkk1 {k j:Int} (h:0≤k∧k≤6) (h2:0≤j∧j≤6):wrap64 (k+j+1)=k+j+1:=IntWalk.wrap64_in _ (by omega)
theorem Gn.int_at {B:Nat} {w:World} {b n c:Nat} {l:List Int} (h:w.ownsRow B 3 1 (.slice (some ⟨b,0,none⟩) n c) n (Gn.intCs l)) (hn:l.length=n) (i:Nat) (hi:i < n) (hl:i < l.length) {t:Int} (ht:l[i]=t):w.cell? ⟨b,i,none⟩=some (.int .i64 t):=by
 obtain ⟨b',e,h1⟩:=Gn.int_cell h hn i hi
 injection e with e;injection e with e;subst e
 rw [← ht];exact h1
theorem Gn.app_le {a t:ByteArray} {x:ByteArray} (h:a++t=x) (ha:a.size=1) (ht:t.size≤20):x.size≤30:=by rw [← h,ByteArray.size_append];omega
theorem Gn.wrj {j:Int} {m:Nat} (h:0≤j∧j≤(m:Int)) (hm:m≤3):wrap64 (j+1)=j+1:=IntWalk.wrap64_in _ (by omega)
theorem Gn.j_hi {j:Int} {m:Nat} (h:0≤j∧j≤(m:Int)) (hm:m≤3):j≤9223372036854775807:=by omega
theorem Gn.j_nx {j:Int} {m k:Nat} (h:0≤j∧j≤(m:Int)) (hk:j.toNat=k):(j+1).toNat=k+1:=by omega
theorem Gn.wrm {m:Nat} (hm:m≤3):wrap64 ((m:Int)+1)=(m:Int)+1:=IntWalk.wrap64_in _ (by omega)
theorem Gn.fn_bounds {P k M Z:Nat} (hk:k≤3) (hP:P+7 * M≤700000000) (hm:13000≤M) (hZ:Z=8000):(P+k+3 * M+10≤700000000)∧(P+k+3 * M+10+3 * M+10≤700000000)∧(3 * M+10+(3 * M+10)≤1000000000)∧(P+k+3 * M+10+3 * M+10≤1000000000)∧(P+k+3 * M+10+3 * M+10+1+2500≤700000000)∧(P+k+3 * M+10+3 * M+10+1+2500+2600≤700000000)∧(P+k+3 * M+10+3 * M+10+1+2500+2600+2600≤700000000)∧(3 * M+10+(3 * M+10)+(2500+(2600+1)+(2600+1)+1)≤1000000000)∧(P+k+3 * M+10+3 * M+10+1+2600≤700000000)∧(3 * M+10+(3 * M+10)+2600≤1000000000)∧(P+k+3 * M+10+3 * M+10+1+2500+2600+2600≤P+7 * M)∧(P+k+3 * M+10+3 * M+10+1+2600≤P+7 * M)∧(P+k+3 * M+10+3 * M+10≤P+7 * M)∧(3 * M+10+(3 * M+10)+(2500+(2600+1)+(2600+1)+1)≤6 * M+Z)∧(3 * M+10+(3 * M+10)+2600≤6 * M+Z)∧(3 * M+10+(3 * M+10)≤6 * M+Z)∧(k+(6 * M+Z)≤1000000000)∧(k+(6 * M+Z)+1≤1000000000)∧(k+(6 * M+Z)+1+1≤1000000000)∧(k+(6 * M+Z)+1+1≤7 * M):=by
 refine ⟨?_, ?_, ?_, ?_, ?_, ?_, ?_, ?_, ?_, ?_, ?_, ?_, ?_, ?_, ?_, ?_, ?_, ?_, ?_, ?_⟩ <;> omega
theorem Gn.below_al (w:World) (o:Obj):Below w.heap.size w (w.alloc o):=(Below.refl _ w).alloc (Nat.le_refl _) o
theorem Gn.k_one {k m:Nat} (h:k < m) (hm:m≤3):k+1≤1000000000:=by omega
theorem Gn.lim1 {t:ByteArray} (h:t.size≤20):¬ (9223372036854775807 < 1+t.size):=by omega
theorem Gn.lim2 {t:ByteArray} (h:t.size≤20):¬ (9223372036854775806 < t.size):=by omega
theorem Gn.p_le {P k m M:Nat} (h:k < m) (hm:m≤3) (hP:P+7 * M≤700000000):P+k≤900000000:=by omega
theorem Gn.node_new {w V:World} (d:Mill.Nd) (hd:d.text.size≤100) (h:w.alloc (.cells #[.int .i64 d.kind,.int .i64 d.op,.int .i64 d.type,.int .i64 d.n,.string d.text,.int .i64 d.kids] 106)=V):Gn.Row w.heap.size V (.slice (some ⟨w.heap.size,0,none⟩) 1 1) 1:=by rw [← h];exact Gn.new_one w d hd
end Go.Proofs.YtfoimmnlojjfbaaGreatDoor
