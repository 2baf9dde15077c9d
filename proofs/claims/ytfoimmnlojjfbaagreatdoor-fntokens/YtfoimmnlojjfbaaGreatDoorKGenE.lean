import Derived.Test.YtfoimmnlojjfbaaGreatDoorKTk
import Derived.Test.YtfoimmnlojjfbaaGreatDoorKDrawB
set_option maxRecDepth 100000
set_option maxHeartbeats 2000000
namespace Go.Proofs.YtfoimmnlojjfbaaGreatDoor
open Go.RowKit
theorem Gn.ca {W:World} {a:Addr} {v:Value} {o:Obj} (h:W.cell? a=some v):(W.alloc o).cell? a=some v:=(World.cell?_alloc_lt _ _ _ (World.block_lt_of_cell? _ _ h)).trans h
theorem Gn.flat_at {α:Type} (f:α→List Value) (m:Nat) (hm:∀ a,(f a).length=m):∀ (l:List α) (u:Nat) (hu:u < l.length) (j:Nat),j < m→(l.flatMap f)[u * m+j]? = (f l[u])[j]?
 | [],u,hu,_,_=>by simp at hu
 | x::l,0,_,j,hj=>by
  rw [List.flatMap_cons,List.getElem?_append_left (by rw [hm];omega)];simp
 | x::l,u+1,hu,j,hj=>by
  rw [List.flatMap_cons,List.getElem?_append_right (by rw [hm,Nat.add_mul];omega),hm,show (u+1) * m+j - m=u * m+j by rw [Nat.add_mul];omega]
  exact Gn.flat_at f m hm l u (by simpa using hu) j hj
theorem Gn.name_cell {B:Nat} {w:World} {a:Option Addr} {n c:Nat} {nl:List (ByteArray × Int)} (h:w.ownsRow B 140 2 (.slice a n c) nl.length (Gn.nmCs nl)) (hn:nl.length=n) (i:Nat) (hi:i < n):∃ b,a=some ⟨b,0,none⟩∧w.cell? ⟨b,i * 2,none⟩=some (.string (nl[i]'(by omega)).1)∧w.cell? ⟨b,i * 2+1,none⟩=some (.int .i64 (nl[i]'(by omega)).2):=by
 rcases h.2 with ⟨he,h0⟩ | ⟨g,cap,cur,he,_⟩
 ·injection he with e1 e2 e3;omega
 ·injection he with e1 e2 e3
  subst e1;subst e3
  have hf:=fun j hj=>Gn.flat_at Gn.nmC 2 (fun _=>rfl) nl i (by omega) j hj
  refine ⟨g,rfl,Gn.own_cells h rfl _ _ ?_,Gn.own_cells h rfl _ _ ?_⟩
  ·exact hf 0 (by omega)
  ·exact hf 1 (by omega)
def Gn.NamedPost (B g R P:Nat) (w:World) (nv:Value) (nl:List (ByteArray × Int)) (fv:Value) (F:List Gn.Sg) (ret loops count size:Int) (e:Ending) (w':World):Prop := ∃ a n c b,e = .returned (.tuple #[.slice a n c,.bool b])∧Gn.Row w.heap.size w' (.slice a n c) 1∧Gn.St B g R P w' nv nl fv F ret loops count size∧Gn.Fr B w w'
theorem Gn.empty_row (w:World):Gn.Row w.heap.size (w.alloc (.cells #[] 106)) (.slice (some ⟨w.heap.size,0,none⟩) 0 0) 0:=⟨[],by simp,by simp,Gn.new_row w w.heap.size (Nat.le_refl _) [] (by simp)⟩
theorem Gn.named_any {B g R P:Nat} {w:World} {nv:Value} {nl:List (ByteArray × Int)} {fv:Value} {F:List Gn.Sg} {ret loops count size:Int} (h:Gn.St B g R P w nv nl fv F ret loops count size) (hP:P≤900000000) (t:Int) :
  Calls Tryz.prog 122 #[.pointer (some ⟨g,0,none⟩),.int .i64 t] w (Gn.NamedPost B g R (P+1) w nv nl fv F ret loops count size):=by
 obtain ⟨na,nc,rfl⟩:=Gn.rowLen h.names
 have HS:Hid (Gn.St B g R P w (.slice na nl.length nc) nl fv F ret loops count size):=h
 obtain ⟨g0,g1,-⟩:=h.cells
 have hnl:nl.length≤P:=h.nbd.1
 have HBD:Hid (∀ x ∈ nl,x.1.size≤30):=fun x hx=>(h.nbd.2 x hx).1
 clear h
 obtain ⟨n,HN⟩:∃ n,Hid (nl.length=n):=⟨_,(rfl:nl.length=_)⟩
 rw [HN.out] at HS g1 hnl ⊢
 go_enter Tryz.func122,Tryz.ntmps122
 go_wp2_with fail
 refine (Gn.pickN HS.out n (by omega) (by omega)).mono ?_
 rintro e w1 ⟨v,rfl,hv,hv2,hs1,hf1⟩
 have HS1:Hid (Gn.St B g R (P+1) w1 (.slice na n nc) nl fv F ret loops count size):=hs1
 have HF1:Hid (Gn.Fr B w w1):=hf1
 have hz1:=hf1.size
 clear hs1 hf1 g0 g1
 go_wp2_with fail
 go_loopw [8] (fun t wr => ∃ j:Nat,j≤n∧t = .int .i64 (j:Int)∧Gn.St B g R (P+1) wr (.slice na n nc) nl fv F ret loops count size∧Below w1.heap.size w1 wr) (fun t _=>n - (intOf t).toNat)
 case atStart=>exact ⟨0,by omega,rfl,HS1.out,Below.refl _ _⟩
 case round =>
  obtain ⟨j,hj,rfl,hsr,hbr⟩:=hrel
  have HSR:Hid (Gn.St B g R (P+1) wr (.slice na n nc) nl fv F ret loops count size):=hsr
  have HBR:Hid (Below w1.heap.size w1 wr):=hbr
  have hzr:=hbr.size
  by_cases hlt:j < n
  ·have hltI:(j:Int) < (n:Int):=by omega
   have hvn:=hv (by omega)
   obtain ⟨q,HQ⟩:∃ q,Hid ((v+j) % n=q):=⟨_,(rfl:(v+j) % n=_)⟩
   have hqn:q < n:=by rw [← HQ.out];exact Nat.mod_lt _ (by omega)
   have hql:q < nl.length:=by rw [HN.out];exact hqn
   obtain ⟨b,rfl,hq0,hq1⟩:=Gn.name_cell hsr.names HN.out q hqn
   have hg1:=hsr.cells.2.1
   have hts:nl[q].1.size≤100:=by have:=HBD.out nl[q] (List.getElem_mem hql);omega
   have hqI:(q:Int) < (n:Int):=by omega
   have hw:IntKind.i64.wrap ((v:Int)+(j:Int))=(v:Int)+(j:Int):=(IntWalk.i64_left _).trans (IntWalk.wrap64_in _ (by omega))
   have hn0:((n:Int) == 0)=false:=by simp;omega
   have hn00:¬ n=0:=by omega
   have hrm:((v:Int)+(j:Int)).tmod (n:Int)=(q:Int):=by rw [← HQ.out,Int.tmod_eq_emod_of_nonneg (by omega)];push_cast;rfl
   clear hsr hbr hlt hvn HQ hv
   go_wp2_with fail
   refine wp_region_held_drew (S:=(fun W=>W.cell? ⟨g,1,none⟩=some (.slice (some ⟨b,0,none⟩) n nc)∧W.cell? ⟨b,q * 2,none⟩=some (.string nl[q].1)∧W.cell? ⟨b,q * 2+1,none⟩=some (.int .i64 nl[q].2))) (by kernel_rfl) (⟨hg1,hq0,hq1⟩) (fun hHeld => ?_)
   refine Tk 0 (.pointer (some ⟨g,0,none⟩)) rfl ?_
   try simp [Act.put]
   refine Tk 1 (.pointer (some ⟨g,0,none⟩)) rfl ?_
   try simp [Act.put]
   refine Tk 2 (.pointer (some ⟨g,1,none⟩)) rfl ?_
   try simp [Act.put]
   refine Tk 3 (.slice (some ⟨b,0,none⟩) n nc) rfl ?_
   try simp [Act.put]
   refine Tk 4 (.int .i64 (v:Int)) rfl ?_
   try simp [Act.put]
   refine Tk 5 (.int .i64 (j:Int)) rfl ?_
   try simp [Act.put]
   refine Tk 6 (.int .i64 ((v:Int)+(j:Int))) rfl ?_
   try simp [Act.put]
   refine Tk 7 (.int .i64 (n:Int)) rfl ?_
   try simp [Act.put]
   refine Tk 8 (.int .i64 (q:Int)) rfl ?_
   try simp [Act.put]
   refine Tk 9 (.pointer (some ⟨b,q * 2,none⟩)) rfl ?_
   try simp [Act.put]
   refine Tk 10 (.agg #[.string nl[q].1,.int .i64 nl[q].2]) rfl ?_
   try simp [Act.put]
   have hHeld0:=hHeld
   refine wpAnyH_ready (rs:=[11]) (by kernel_rfl) (by simp) ?_
   refine AllReadyH.cons rfl (fun KK hK => ?_) AllReadyH.nil
   go_simp
   refine hK.out _ _ (⟨Gn.ca hHeld.1,Gn.ca hHeld.2.1,Gn.ca hHeld.2.2⟩) (fun hHeld => ?_)
   clear hK
   try simp [Act.put]
   refine wpAnyH_ready (rs:=[12]) (by kernel_rfl) (by simp) ?_
   refine AllReadyH.cons rfl (fun KK hK => ?_) AllReadyH.nil
   go_simp
   refine hK.out _ _ (⟨Gn.ca hHeld0.1,Gn.ca hHeld0.2.1,Gn.ca hHeld0.2.2⟩) (fun hHeld => ?_)
   clear hK
   try simp [Act.put]
   refine wpAnyH_done (by kernel_rfl) ?_ _
   obtain ⟨V,hV⟩:∃ V,(wr.alloc (.cells #[.string nl[q].1,.int .i64 nl[q].2] 140)).drew=V:=⟨_,rfl⟩
   have hbV:Below wr.heap.size wr V:=by rw [← hV];exact ((Below.refl _ wr).alloc (Nat.le_refl _) _).drew
   have hxV:V.heap[wr.heap.size]? = some (.cells #[.string nl[q].1,.int .i64 nl[q].2] 140):=by rw [← hV];exact World.alloc_heap_new wr _
   have x0:V.cell? ⟨wr.heap.size,0,none⟩=some (.string nl[q].1):=by rw [Lib.cell_of_heap hxV];rfl
   have x1:V.cell? ⟨wr.heap.size,1,none⟩=some (.int .i64 nl[q].2):=by rw [Lib.cell_of_heap hxV];rfl
   rw [hV]
   have HBV:Hid (Below wr.heap.size wr V):=hbV
   clear hHeld hHeld0 hxV hbV hV
   obtain ⟨b,HE⟩:∃ b,Hid ((nl[q].2 == t)=b):=⟨_,(rfl:(nl[q].2 == t)=_)⟩
   have he:=HE.out
   cases b with
   | true =>
    go_wp2_with fail
    refine (Gn.leaf_any 4 nl[q].1 hts V).mono ?_
    rintro e w5 ⟨a5,n5,c5,rfl,hr5,hb5⟩
    have hz5:=HBV.out.size
    have hbw:Below w1.heap.size w1 w5:=HBR.out.trans ((HBV.out.trans (hb5.mono hz5)).mono hzr)
    go_wp2_with fail
    exact bodyPost_ret (v:=.tuple #[.slice a5 n5 c5,.bool true]) (by simp [results,Tryz.results122,go_sem]) rfl ⟨a5,n5,c5,true,rfl,hr5.mono (by omega) (Nat.le_refl _),HS1.out.below hbw,HF1.out.trans (Gn.Fr.of_below hbw)⟩
   | false =>
    have HSV:Hid (Gn.St B g R (P+1) V (.slice (some ⟨_,0,none⟩) n nc) nl fv F ret loops count size):=HSR.out.below HBV.out
    go_wp2_with fail
    go_roundw
    case rel=>exact ⟨j+1,by omega,by go_num,HSV.out,HBR.out.trans (HBV.out.mono hzr)⟩
    case measure=>simp [intOf];omega
  ·have hltI:¬ (j:Int) < (n:Int):=by omega
   clear hsr hbr hv
   go_wp2_with fail
   have hbw:Below w1.heap.size w1 (wr.alloc (.cells #[] 106)):=HBR.out.alloc hzr _
   exact bodyPost_ret (v:=.tuple #[.slice (some ⟨wr.heap.size,0,none⟩) 0 0,.bool false]) (by simp [results,Tryz.results122,go_sem]) rfl ⟨_,_,_,false,rfl,(Gn.empty_row wr).mono (by omega) (by omega),HS1.out.below hbw,HF1.out.trans (Gn.Fr.of_below hbw)⟩
def Gn.LeafPost (B g R P K:Nat) (w:World) (nv:Value) (nl:List (ByteArray × Int)) (fv:Value) (F:List Gn.Sg) (ret loops count size:Int) (e:Ending) (w':World):Prop := ∃ a n c,e = .returned (.slice a n c)∧Gn.Row w.heap.size w' (.slice a n c) K∧Gn.St B g R P w' nv nl fv F ret loops count size∧Gn.Fr B w w'
theorem Gn.leafG_any {B g R P:Nat} {w:World} {nv:Value} {nl:List (ByteArray × Int)} {fv:Value} {F:List Gn.Sg} {ret loops count size:Int} (h:Gn.St B g R P w nv nl fv F ret loops count size) (hP:P≤800000000) (t:Int) :
  Calls Tryz.prog 110 #[.pointer (some ⟨g,0,none⟩),.int .i64 t] w (Gn.LeafPost B g R (P+20) 1 w nv nl fv F ret loops count size):=by
 have HS:Hid (Gn.St B g R P w nv nl fv F ret loops count size):=h
 clear h
 go_enter Tryz.func110,Tryz.ntmps110
 go_wp2_with fail
 refine (Gn.named_any HS.out (by omega) t).mono ?_
 rintro e w1 ⟨a,n,c,b,rfl,hr1,hs1,hf1⟩
 have HS1:Hid (Gn.St B g R (P+1) w1 nv nl fv F ret loops count size):=hs1
 have HF1:Hid (Gn.Fr B w w1):=hf1
 have HR1:Hid (Gn.Row w.heap.size w1 (.slice a n c) 1):=hr1
 have g0:=hs1.cells.1
 have hz1:=hf1.size
 clear hs1 hf1 hr1
 have hs1:=HS1.out
 have hd:t=1∨t=2∨(t≠1∧t≠2):=by omega
 cases b with
 | true =>
  go_wp2_with fail
  refine (Gn.pick_any HS1.out 3 (by omega) (by omega) (by omega)).mono ?_
  rintro e w2 ⟨v,rfl,hv,hs2,hf2⟩
  have q2:=hs2.cells.1
  have hz2:=hf2.size
  have HF2:Hid (Gn.Fr B w w2):=HF1.out.trans hf2
  have HR2:Hid (Gn.Row w.heap.size w2 (.slice a n c) 1):=HR1.out.fr hf2
  clear g0 hs1 hf2
  by_cases hv0:v=0
  ·subst hv0
   rcases hd with rfl | rfl | ⟨h1,h2⟩
   ·go_wp2_with fail
    refine (Gn.pick_any hs2 2 (by omega) (by omega) (by omega)).mono ?_
    rintro e w3 ⟨v3,rfl,hv3,hs3,hf3⟩
    have hz3:=hf3.size
    go_wp2_with fail
    go_ret
    exact ⟨_,_,_,rfl,(Gn.new_one w3 ⟨3,0,0,(v3:Int),⟨#[]⟩,0⟩ Gn.no_text).mono (by omega) (Nat.le_refl _),(hs3.below ((Below.refl _ w3).alloc (Nat.le_refl _) _)).mono (by omega),(HF2.out.trans hf3).alloc _⟩
   ·go_wp2_with fail
    refine (Gn.pick_any hs2 5 (by omega) (by omega) (by omega)).mono ?_
    rintro e w3 ⟨v3,rfl,hv3,hs3,hf3⟩
    have hz3:=hf3.size
    have q3:=hs3.cells.1
    by_cases hv0:v3=0
    ·subst hv0
     go_wp2_with fail
     refine (Gn.built_of 5 [] 0 none 0 w3 (fun i v hi=>by simp at hi) (fun v hv=>by simp at hv) (by simp) (by simp)).mono ?_
     rintro e w4 ⟨a4,n4,c4,rfl,hr4,hb4⟩
     go_wp2_with fail
     go_ret
     exact ⟨_,_,_,rfl,hr4.mono (by omega) (by simp),(hs3.below hb4).mono (by omega),(HF2.out.trans hf3).trans (Gn.Fr.of_below hb4)⟩
    ·have hvI:((v3:Int) == 0)=false:=by simp;omega
     go_wp2_with fail
     refine (Gn.text_any hs3 (by omega)).mono ?_
     rintro e w4 ⟨tx,rfl,htx,hs4,hf4⟩
     have hz4:=hf4.size
     go_wp2_with fail
     refine (Gn.textNode_any tx htx w4).mono ?_
     rintro e w5 ⟨a5,n5,c5,rfl,hr5,hb5⟩
     go_wp2_with fail
     go_ret
     exact ⟨_,_,_,rfl,hr5.mono (by omega) (Nat.le_refl _),(hs4.below hb5).mono (by omega),((HF2.out.trans hf3).trans hf4).trans (Gn.Fr.of_below hb5)⟩
   ·have e1:(t == 1)=false:=by simpa using h1
    have e2:(t == 2)=false:=by simpa using h2
    go_wp2_with fail
    refine (Gn.number_any hs2 (by omega) t).mono ?_
    rintro e w4 ⟨nu,rfl,hs4,hf4⟩
    have hz4:=hf4.size
    go_wp2_with fail
    refine (Gn.int_any t nu w4).mono ?_
    rintro e w5 ⟨a5,n5,c5,rfl,hr5,hb5⟩
    go_wp2_with fail
    go_ret
    exact ⟨_,_,_,rfl,hr5.mono (by omega) (Nat.le_refl _),(hs4.below hb5).mono (by omega),(HF2.out.trans hf4).trans (Gn.Fr.of_below hb5)⟩
  ·have hvI:(0:Int) < (v:Int):=by omega
   go_wp2_with fail
   go_ret
   exact ⟨a,n,c,rfl,HR2.out,hs2.mono (by omega),HF2.out⟩
 | false =>
  rcases hd with rfl | rfl | ⟨h1,h2⟩
  ·go_wp2_with fail
   refine (Gn.pick_any hs1 2 (by omega) (by omega) (by omega)).mono ?_
   rintro e w3 ⟨v3,rfl,hv3,hs3,hf3⟩
   have hz3:=hf3.size
   go_wp2_with fail
   go_ret
   exact ⟨_,_,_,rfl,(Gn.new_one w3 ⟨3,0,0,(v3:Int),⟨#[]⟩,0⟩ Gn.no_text).mono (by omega) (Nat.le_refl _),(hs3.below ((Below.refl _ w3).alloc (Nat.le_refl _) _)).mono (by omega),(HF1.out.trans hf3).alloc _⟩
  ·go_wp2_with fail
   refine (Gn.pick_any hs1 5 (by omega) (by omega) (by omega)).mono ?_
   rintro e w3 ⟨v3,rfl,hv3,hs3,hf3⟩
   have hz3:=hf3.size
   have q3:=hs3.cells.1
   by_cases hv0:v3=0
   ·subst hv0
    go_wp2_with fail
    refine (Gn.built_of 5 [] 0 none 0 w3 (fun i v hi=>by simp at hi) (fun v hv=>by simp at hv) (by simp) (by simp)).mono ?_
    rintro e w4 ⟨a4,n4,c4,rfl,hr4,hb4⟩
    go_wp2_with fail
    go_ret
    exact ⟨_,_,_,rfl,hr4.mono (by omega) (by simp),(hs3.below hb4).mono (by omega),(HF1.out.trans hf3).trans (Gn.Fr.of_below hb4)⟩
   ·have hvI:((v3:Int) == 0)=false:=by simp;omega
    go_wp2_with fail
    refine (Gn.text_any hs3 (by omega)).mono ?_
    rintro e w4 ⟨tx,rfl,htx,hs4,hf4⟩
    have hz4:=hf4.size
    go_wp2_with fail
    refine (Gn.textNode_any tx htx w4).mono ?_
    rintro e w5 ⟨a5,n5,c5,rfl,hr5,hb5⟩
    go_wp2_with fail
    go_ret
    exact ⟨_,_,_,rfl,hr5.mono (by omega) (Nat.le_refl _),(hs4.below hb5).mono (by omega),((HF1.out.trans hf3).trans hf4).trans (Gn.Fr.of_below hb5)⟩
  ·have e1:(t == 1)=false:=by simpa using h1
   have e2:(t == 2)=false:=by simpa using h2
   go_wp2_with fail
   refine (Gn.number_any hs1 (by omega) t).mono ?_
   rintro e w4 ⟨nu,rfl,hs4,hf4⟩
   have hz4:=hf4.size
   go_wp2_with fail
   refine (Gn.int_any t nu w4).mono ?_
   rintro e w5 ⟨a5,n5,c5,rfl,hr5,hb5⟩
   go_wp2_with fail
   go_ret
   exact ⟨_,_,_,rfl,hr5.mono (by omega) (Nat.le_refl _),(hs4.below hb5).mono (by omega),(HF1.out.trans hf4).trans (Gn.Fr.of_below hb5)⟩
theorem Gn.new_parts (w:World) (vs:List Value) (T:TypeId):∀ i v,vs[i]? = some v→∃ b,some (⟨w.heap.size,0,none⟩:Addr)=some ⟨b,0,none⟩∧(w.alloc (.cells vs.toArray T)).cell? ⟨b,i,none⟩=some v:=fun i v hi=>⟨w.heap.size,rfl,by rw [Lib.cell_of_heap (World.alloc_heap_new w _)];simpa using hi⟩
theorem Gn.over_new (d:Mill.Nd) (hd:d.text.size≤100) (vs:List Value) (K:Nat) (w:World) (hr:∀ v ∈ vs,∃ A,Gn.Row A w v K) (hl:vs.length≤100) (hK:vs.length * K≤1000000000) :
  Calls Tryz.prog 77 #[.agg #[.int .i64 d.kind,.int .i64 d.op,.int .i64 d.type,.int .i64 d.n,.string d.text,.int .i64 d.kids],.slice (some ⟨w.heap.size,0,none⟩) vs.length vs.length] (w.alloc (.cells vs.toArray 71)) fun e w' => ∃ a n c,e = .returned (.slice a n c)∧Gn.Row w.heap.size w' (.slice a n c) (vs.length * K+1)∧Below w.heap.size w w':=by
 have hb:Below w.heap.size w (w.alloc (.cells vs.toArray 71)):=(Below.refl _ w).alloc (Nat.le_refl _) _
 refine (Gn.over_of d hd vs K (some ⟨w.heap.size,0,none⟩) vs.length _ (Gn.new_parts w vs _) (fun v hv=>by obtain ⟨A,h⟩:=hr v hv;exact ⟨A,h.fr (B:=0) (Gn.Fr.of_below hb)⟩) hl hK).mono ?_
 rintro e w' ⟨a,n,c,rfl,h1,h2⟩
 exact ⟨a,n,c,rfl,h1.mono hb.size (Nat.le_refl _),hb.trans (h2.mono hb.size)⟩
theorem Gn.built_new (op:Int) (vs:List Value) (K:Nat) (w:World) (hr:∀ v ∈ vs,∃ A,Gn.Row A w v K) (hl:vs.length≤100) (hK:vs.length * K≤1000000000) :
  Calls Tryz.prog 123 #[.int .i64 op,.slice (some ⟨w.heap.size,0,none⟩) vs.length vs.length] (w.alloc (.cells vs.toArray 71)) fun e w' => ∃ a n c,e = .returned (.slice a n c)∧Gn.Row w.heap.size w' (.slice a n c) (vs.length * K+1)∧Below w.heap.size w w':=by
 have hb:Below w.heap.size w (w.alloc (.cells vs.toArray 71)):=(Below.refl _ w).alloc (Nat.le_refl _) _
 refine (Gn.built_of op vs K (some ⟨w.heap.size,0,none⟩) vs.length _ (Gn.new_parts w vs _) (fun v hv=>by obtain ⟨A,h⟩:=hr v hv;exact ⟨A,h.fr (B:=0) (Gn.Fr.of_below hb)⟩) hl hK).mono ?_
 rintro e w' ⟨a,n,c,rfl,h1,h2⟩
 exact ⟨a,n,c,rfl,h1.mono hb.size (Nat.le_refl _),hb.trans (h2.mono hb.size)⟩
def Gn.RPost (K:Nat) (w:World) (e:Ending) (w':World):Prop := ∃ a n c,e = .returned (.slice a n c)∧Gn.Row w.heap.size w' (.slice a n c) K∧Below w.heap.size w w'
theorem Gn.over1 (d:Mill.Nd) (hd:d.text.size≤100) {a:Option Addr} {n c K A:Nat} {w:World} (h:Gn.Row A w (.slice a n c) K) (hK:K≤300000000) :
  Calls Tryz.prog 77 #[.agg #[.int .i64 d.kind,.int .i64 d.op,.int .i64 d.type,.int .i64 d.n,.string d.text,.int .i64 d.kids],.slice (some ⟨w.heap.size,0,none⟩) 1 1] (w.alloc (.cells #[.slice a n c] 71)) (Gn.RPost (K+1) w):=by
 have:=Gn.over_new d hd [.slice a n c] K w (fun v hv=>by simp at hv;subst hv;exact ⟨A,h⟩) (by simp) (by simp;omega)
 exact this.mono fun e w' ⟨a,n,c,h1,h2,h3⟩=>⟨a,n,c,h1,h2.mono (Nat.le_refl _) (by simp),h3⟩
theorem Gn.built1 (op:Int) {a:Option Addr} {n c K A:Nat} {w:World} (h:Gn.Row A w (.slice a n c) K) (hK:K≤300000000) :
  Calls Tryz.prog 123 #[.int .i64 op,.slice (some ⟨w.heap.size,0,none⟩) 1 1] (w.alloc (.cells #[.slice a n c] 71)) (Gn.RPost (K+1) w):=by
 have:=Gn.built_new op [.slice a n c] K w (fun v hv=>by simp at hv;subst hv;exact ⟨A,h⟩) (by simp) (by simp;omega)
 exact this.mono fun e w' ⟨a,n,c,h1,h2,h3⟩=>⟨a,n,c,h1,h2.mono (Nat.le_refl _) (by simp),h3⟩
theorem Gn.over2 (d:Mill.Nd) (hd:d.text.size≤100) {a a':Option Addr} {n c n' c' K A A':Nat} {w:World} (h:Gn.Row A w (.slice a n c) K) (h':Gn.Row A' w (.slice a' n' c') K) (hK:K≤300000000) :
  Calls Tryz.prog 77 #[.agg #[.int .i64 d.kind,.int .i64 d.op,.int .i64 d.type,.int .i64 d.n,.string d.text,.int .i64 d.kids],.slice (some ⟨w.heap.size,0,none⟩) 2 2] (w.alloc (.cells #[.slice a n c,.slice a' n' c'] 71)) (Gn.RPost (2 * K+1) w):=by
 have:=Gn.over_new d hd [.slice a n c,.slice a' n' c'] K w (fun v hv=>by simp at hv;rcases hv with rfl | rfl <;> first | exact ⟨A,h⟩ | exact ⟨A',h'⟩) (by simp) (by simp;omega)
 exact this.mono fun e w' ⟨a,n,c,h1,h2,h3⟩=>⟨a,n,c,h1,h2.mono (Nat.le_refl _) (by simp),h3⟩
theorem Gn.built2 (op:Int) {a a':Option Addr} {n c n' c' K A A':Nat} {w:World} (h:Gn.Row A w (.slice a n c) K) (h':Gn.Row A' w (.slice a' n' c') K) (hK:K≤300000000) :
  Calls Tryz.prog 123 #[.int .i64 op,.slice (some ⟨w.heap.size,0,none⟩) 2 2] (w.alloc (.cells #[.slice a n c,.slice a' n' c'] 71)) (Gn.RPost (2 * K+1) w):=by
 have:=Gn.built_new op [.slice a n c,.slice a' n' c'] K w (fun v hv=>by simp at hv;rcases hv with rfl | rfl <;> first | exact ⟨A,h⟩ | exact ⟨A',h'⟩) (by simp) (by simp;omega)
 exact this.mono fun e w' ⟨a,n,c,h1,h2,h3⟩=>⟨a,n,c,h1,h2.mono (Nat.le_refl _) (by simp),h3⟩
theorem Gn.over3 (d:Mill.Nd) (hd:d.text.size≤100) {a a' a2:Option Addr} {n c n' c' n2 c2 K A A' A2:Nat} {w:World} (h:Gn.Row A w (.slice a n c) K) (h':Gn.Row A' w (.slice a' n' c') K) (h2:Gn.Row A2 w (.slice a2 n2 c2) K) (hK:K≤300000000) :
  Calls Tryz.prog 77 #[.agg #[.int .i64 d.kind,.int .i64 d.op,.int .i64 d.type,.int .i64 d.n,.string d.text,.int .i64 d.kids],.slice (some ⟨w.heap.size,0,none⟩) 3 3] (w.alloc (.cells #[.slice a n c,.slice a' n' c',.slice a2 n2 c2] 71)) (Gn.RPost (3 * K+1) w):=by
 have:=Gn.over_new d hd [.slice a n c,.slice a' n' c',.slice a2 n2 c2] K w (fun v hv=>by simp at hv;rcases hv with rfl | rfl | rfl <;> first | exact ⟨A,h⟩ | exact ⟨A',h'⟩ | exact ⟨A2,h2⟩) (by simp) (by simp;omega)
 exact this.mono fun e w' ⟨a,n,c,h1,h2,h3⟩=>⟨a,n,c,h1,h2.mono (Nat.le_refl _) (by simp),h3⟩
theorem Gn.built3 (op:Int) {a a' a2:Option Addr} {n c n' c' n2 c2 K A A' A2:Nat} {w:World} (h:Gn.Row A w (.slice a n c) K) (h':Gn.Row A' w (.slice a' n' c') K) (h2:Gn.Row A2 w (.slice a2 n2 c2) K) (hK:K≤300000000) :
  Calls Tryz.prog 123 #[.int .i64 op,.slice (some ⟨w.heap.size,0,none⟩) 3 3] (w.alloc (.cells #[.slice a n c,.slice a' n' c',.slice a2 n2 c2] 71)) (Gn.RPost (3 * K+1) w):=by
 have:=Gn.built_new op [.slice a n c,.slice a' n' c',.slice a2 n2 c2] K w (fun v hv=>by simp at hv;rcases hv with rfl | rfl | rfl <;> first | exact ⟨A,h⟩ | exact ⟨A',h'⟩ | exact ⟨A2,h2⟩) (by simp) (by simp;omega)
 exact this.mono fun e w' ⟨a,n,c,h1,h2,h3⟩=>⟨a,n,c,h1,h2.mono (Nat.le_refl _) (by simp),h3⟩
theorem Gn.bin (op:Int) {a a':Option Addr} {n c n' c' K A A':Nat} {w:World} (h:Gn.Row A w (.slice a n c) K) (h':Gn.Row A' w (.slice a' n' c') K) (hK:K≤300000000) :
  Calls Tryz.prog 99 #[.int .i64 op,.slice a n c,.slice a' n' c'] w (Gn.RPost (2 * K+1) w):=Gn.bin_of op a n c a' n' c' K w ⟨A,h⟩ ⟨A',h'⟩ (by omega)
def Gn.XPost (B g R P K:Nat) (w:World) (nv:Value) (nl:List (ByteArray × Int)) (fv:Value) (F:List Gn.Sg) (ret loops count:Int) (e:Ending) (w':World):Prop := ∃ a n c size,e = .returned (.slice a n c)∧Gn.Row w.heap.size w' (.slice a n c) K∧Gn.St B g R P w' nv nl fv F ret loops count size∧Gn.Fr B w w'
def Gn.eb (d:Nat):Nat:=100 * 5 ^ d
theorem Gn.eb_next (d:Nat):Gn.eb (d+1)=5 * Gn.eb d:=by unfold Gn.eb;rw [Nat.pow_succ];omega
theorem Gn.eb_pos (d:Nat):100≤Gn.eb d:=by unfold Gn.eb;have:=Nat.one_le_pow d 5 (by omega);omega
def Gn.ExprIs (B g R:Nat) (d:Nat):Prop := ∀ (P:Nat) (w:World) (nv:Value) (nl:List (ByteArray × Int)) (fv:Value) (F:List Gn.Sg) (ret loops count size:Int) (t:Int),Gn.St B g R P w nv nl fv F ret loops count size→P+Gn.eb d≤700000000→Calls Tryz.prog 102 #[.pointer (some ⟨g,0,none⟩),.int .i64 t,.int .i64 (d:Int)] w (Gn.XPost B g R (P+Gn.eb d) (Gn.eb d) w nv nl fv F ret loops count)
theorem Gn.pathG_any {B g R P:Nat} {w:World} {nv:Value} {nl:List (ByteArray × Int)} {fv:Value} {F:List Gn.Sg} {ret loops count size:Int} (HE:Hid (Gn.ExprIs B g R 0)) (h:Gn.St B g R P w nv nl fv F ret loops count size) (hP:P+110≤700000000) :
  Calls Tryz.prog 124 #[.pointer (some ⟨g,0,none⟩)] w (Gn.XPost B g R (P+110) 100 w nv nl fv F ret loops count):=by
 have HS:Hid (Gn.St B g R P w nv nl fv F ret loops count size):=h
 have g0:=h.cells.1
 have he0:Gn.eb 0=100:=rfl
 clear h
 go_enter Tryz.func124,Tryz.ntmps124
 go_wp2_with fail
 refine (Gn.pick_any HS.out 12 (by omega) (by omega) (by omega)).mono ?_
 rintro e w1 ⟨v,rfl,hv,hs1,hf1⟩
 have g1:=hs1.cells.1
 have hz1:=hf1.size
 clear g0
 by_cases hv0:v=0
 ·subst hv0
  go_wp2_with fail
  refine (HE.out (P+1) w1 nv nl fv F ret loops count size 2 hs1 (by omega)).mono ?_
  rintro e w2 ⟨a,n,c,size2,rfl,hr2,hs2,hf2⟩
  go_wp2_with fail
  go_ret
  exact ⟨a,n,c,size2,rfl,hr2.mono hz1 (Nat.le_refl _),hs2.mono (by omega),hf1.trans hf2⟩
 ·have hvI:((v:Int) == 0)=false:=by simp;omega
  go_wp2_with fail
  refine (Gn.path_any hs1 (by omega)).mono ?_
  rintro e w2 ⟨tx,rfl,htx,hs2,hf2⟩
  have hz2:=hf2.size
  go_wp2_with fail
  refine (Gn.textNode_any tx htx w2).mono ?_
  rintro e w3 ⟨a,n,c,rfl,hr3,hb3⟩
  go_wp2_with fail
  go_ret
  exact ⟨a,n,c,size,rfl,hr3.mono (by omega) (by omega),(hs2.below hb3).mono (by omega),(hf1.trans hf2).trans (Gn.Fr.of_below hb3)⟩
theorem Gn.boolean_any {B g R P d:Nat} {w:World} {nv:Value} {nl:List (ByteArray × Int)} {fv:Value} {F:List Gn.Sg} {ret loops count size:Int} (HE0:Hid (Gn.ExprIs B g R 0)) (HE:Hid (Gn.ExprIs B g R d)) (h:Gn.St B g R P w nv nl fv F ret loops count size) (hP:P+4 * Gn.eb d+50≤700000000) :
  Calls Tryz.prog 111 #[.pointer (some ⟨g,0,none⟩),.int .i64 ((d:Int)+1)] w (Gn.XPost B g R (P+4 * Gn.eb d+50) (4 * Gn.eb d+50) w nv nl fv F ret loops count):=by
 have HS:Hid (Gn.St B g R P w nv nl fv F ret loops count size):=h
 have hep:=Gn.eb_pos d
 clear h
 go_enter Tryz.func111,Tryz.ntmps111
 go_wp2_with fail
 refine (Gn.typ_any HS.out (by omega)).mono ?_
 rintro e w1 ⟨t,rfl,ht,hs1,hf1⟩
 have g1:=hs1.cells.1
 have hz1:=hf1.size
 go_wp2_with fail
 refine (Gn.pick_any hs1 9 (by omega) (by omega) (by omega)).mono ?_
 rintro e w2 ⟨v,rfl,hv,hs2,hf2⟩
 have g2:=hs2.cells.1
 have hz2:=hf2.size
 clear g1
 have hd:v=0∨v=1∨v=2∨v=3∨v=4∨5≤v:=by omega
 have hdb:d≤700000000:=by
  have:d < 5 ^ d:=Nat.lt_pow_self (by omega)
  unfold Gn.eb at hP;omega
 rcases hd with rfl | rfl | rfl | rfl | rfl | hv5
 ·go_wp2_with fail
  refine (Gn.pathG_any HE0 hs2 (by omega)).mono ?_
  rintro e w3 ⟨a3,n3,c3,size3,rfl,hr3,hs3,hf3⟩
  have hz3:=hf3.size
  go_wp2_with fail
  refine (Gn.built1 2 hr3 (by omega)).mono ?_
  rintro e w4 ⟨a4,n4,c4,rfl,hr4,hb4⟩
  go_wp2_with fail
  go_ret
  exact ⟨a4,n4,c4,size3,rfl,hr4.mono (by omega) (by omega),(hs3.below hb4).mono (by omega),((hf1.trans hf2).trans hf3).trans (Gn.Fr.of_below hb4)⟩
 ·have hwd:wrap64 ((d:Int)+1 - 1)=(d:Int):=by rw [show (d:Int)+1 - 1=(d:Int) by omega];exact IntWalk.wrap64_in _ (by omega)
  have hwd2:(d:Int)+1 - 1=(d:Int):=by omega
  go_wp2_with fail
  refine (HE.out (P+2+1) w2 nv nl fv F ret loops count size 1 hs2 (by omega)).mono ?_
  rintro e w3 ⟨a3,n3,c3,size3,rfl,hr3,hs3,hf3⟩
  have hz3:=hf3.size
  go_wp2_with fail
  refine (Gn.over1 ⟨5,2,0,0,⟨#[]⟩,0⟩ Gn.no_text hr3 (by omega)).mono ?_
  rintro e w4 ⟨a4,n4,c4,rfl,hr4,hb4⟩
  go_wp2_with fail
  go_ret
  exact ⟨a4,n4,c4,size3,rfl,hr4.mono (by omega) (by omega),(hs3.below hb4).mono (by omega),((hf1.trans hf2).trans hf3).trans (Gn.Fr.of_below hb4)⟩
 ·go_wp2_with fail
  refine (Gn.pick_any hs2 2 (by omega) (by omega) (by omega)).mono ?_
  rintro e w3 ⟨u,rfl,hu,hs3,hf3⟩
  have hz3:=hf3.size
  have hwd:wrap64 ((d:Int)+1 - 1)=(d:Int):=by rw [show (d:Int)+1 - 1=(d:Int) by omega];exact IntWalk.wrap64_in _ (by omega)
  have hwd2:(d:Int)+1 - 1=(d:Int):=by omega
  go_wp2_with fail
  refine (HE.out (P+2+1+1) w3 nv nl fv F ret loops count size 1 hs3 (by omega)).mono ?_
  rintro e w4 ⟨a4,n4,c4,size4,rfl,hr4,hs4,hf4⟩
  have hz4:=hf4.size
  go_wp2_with fail
  refine (HE.out _ w4 nv nl fv F ret loops count size4 1 hs4 (by omega)).mono ?_
  rintro e w5 ⟨a5,n5,c5,size5,rfl,hr5,hs5,hf5⟩
  have hz5:=hf5.size
  go_wp2_with fail
  refine (Gn.bin _ (hr4.fr hf5) hr5 (by omega)).mono ?_
  rintro e w6 ⟨a6,n6,c6,rfl,hr6,hb6⟩
  go_wp2_with fail
  go_ret
  exact ⟨a6,n6,c6,size5,rfl,hr6.mono (by omega) (by omega),(hs5.below hb6).mono (by omega),((((hf1.trans hf2).trans hf3).trans hf4).trans hf5).trans (Gn.Fr.of_below hb6)⟩
 ·go_wp2_with fail
  refine (Gn.pick_any hs2 2 (by omega) (by omega) (by omega)).mono ?_
  rintro e w3 ⟨u,rfl,hu,hs3,hf3⟩
  have hz3:=hf3.size
  have hwd:wrap64 ((d:Int)+1 - 1)=(d:Int):=by rw [show (d:Int)+1 - 1=(d:Int) by omega];exact IntWalk.wrap64_in _ (by omega)
  have hwd2:(d:Int)+1 - 1=(d:Int):=by omega
  go_wp2_with fail
  refine (HE.out (P+2+1+1) w3 nv nl fv F ret loops count size 1 hs3 (by omega)).mono ?_
  rintro e w4 ⟨a4,n4,c4,size4,rfl,hr4,hs4,hf4⟩
  have hz4:=hf4.size
  go_wp2_with fail
  refine (HE.out _ w4 nv nl fv F ret loops count size4 1 hs4 (by omega)).mono ?_
  rintro e w5 ⟨a5,n5,c5,size5,rfl,hr5,hs5,hf5⟩
  have hz5:=hf5.size
  go_wp2_with fail
  refine (Gn.bin _ (hr4.fr hf5) hr5 (by omega)).mono ?_
  rintro e w6 ⟨a6,n6,c6,rfl,hr6,hb6⟩
  go_wp2_with fail
  go_ret
  exact ⟨a6,n6,c6,size5,rfl,hr6.mono (by omega) (by omega),(hs5.below hb6).mono (by omega),((((hf1.trans hf2).trans hf3).trans hf4).trans hf5).trans (Gn.Fr.of_below hb6)⟩
 ·go_wp2_with fail
  refine (Gn.pick_any hs2 2 (by omega) (by omega) (by omega)).mono ?_
  rintro e w3 ⟨u,rfl,hu,hs3,hf3⟩
  have hz3:=hf3.size
  have hwd:wrap64 ((d:Int)+1 - 1)=(d:Int):=by rw [show (d:Int)+1 - 1=(d:Int) by omega];exact IntWalk.wrap64_in _ (by omega)
  have hwd2:(d:Int)+1 - 1=(d:Int):=by omega
  go_wp2_with fail
  refine (HE.out (P+2+1+1) w3 nv nl fv F ret loops count size t hs3 (by omega)).mono ?_
  rintro e w4 ⟨a4,n4,c4,size4,rfl,hr4,hs4,hf4⟩
  have hz4:=hf4.size
  go_wp2_with fail
  refine (HE.out _ w4 nv nl fv F ret loops count size4 t hs4 (by omega)).mono ?_
  rintro e w5 ⟨a5,n5,c5,size5,rfl,hr5,hs5,hf5⟩
  have hz5:=hf5.size
  go_wp2_with fail
  refine (Gn.bin _ (hr4.fr hf5) hr5 (by omega)).mono ?_
  rintro e w6 ⟨a6,n6,c6,rfl,hr6,hb6⟩
  go_wp2_with fail
  go_ret
  exact ⟨a6,n6,c6,size5,rfl,hr6.mono (by omega) (by omega),(hs5.below hb6).mono (by omega),((((hf1.trans hf2).trans hf3).trans hf4).trans hf5).trans (Gn.Fr.of_below hb6)⟩
 ·have f0:((v:Int) == 0)=false:=by simp;omega
  have f1:((v:Int) == 1)=false:=by simp;omega
  have f2:((v:Int) == 2)=false:=by simp;omega
  have f3:((v:Int) == 3)=false:=by simp;omega
  have f4:((v:Int) == 4)=false:=by simp;omega
  by_cases ht1:t=1
  ·subst ht1
   go_wp2_with fail
   refine (Gn.pick_any hs2 6 (by omega) (by omega) (by omega)).mono ?_
   rintro e w3 ⟨u,rfl,hu,hs3,hf3⟩
   have hz3:=hf3.size
   have hwd:wrap64 ((d:Int)+1 - 1)=(d:Int):=by rw [show (d:Int)+1 - 1=(d:Int) by omega];exact IntWalk.wrap64_in _ (by omega)
   have hwd2:(d:Int)+1 - 1=(d:Int):=by omega
   go_wp2_with fail
   refine (HE.out (P+2+1+1) w3 nv nl fv F ret loops count size 2 hs3 (by omega)).mono ?_
   rintro e w4 ⟨a4,n4,c4,size4,rfl,hr4,hs4,hf4⟩
   have hz4:=hf4.size
   go_wp2_with fail
   refine (HE.out _ w4 nv nl fv F ret loops count size4 2 hs4 (by omega)).mono ?_
   rintro e w5 ⟨a5,n5,c5,size5,rfl,hr5,hs5,hf5⟩
   have hz5:=hf5.size
   go_wp2_with fail
   refine (Gn.bin _ (hr4.fr hf5) hr5 (by omega)).mono ?_
   rintro e w6 ⟨a6,n6,c6,rfl,hr6,hb6⟩
   go_wp2_with fail
   go_ret
   exact ⟨a6,n6,c6,size5,rfl,hr6.mono (by omega) (by omega),(hs5.below hb6).mono (by omega),((((hf1.trans hf2).trans hf3).trans hf4).trans hf5).trans (Gn.Fr.of_below hb6)⟩
  ·have e1:(t == 1)=false:=by simpa using ht1
   go_wp2_with fail
   refine (Gn.pick_any hs2 6 (by omega) (by omega) (by omega)).mono ?_
   rintro e w3 ⟨u,rfl,hu,hs3,hf3⟩
   have hz3:=hf3.size
   have hwd:wrap64 ((d:Int)+1 - 1)=(d:Int):=by rw [show (d:Int)+1 - 1=(d:Int) by omega];exact IntWalk.wrap64_in _ (by omega)
   have hwd2:(d:Int)+1 - 1=(d:Int):=by omega
   go_wp2_with fail
   refine (HE.out (P+2+1+1) w3 nv nl fv F ret loops count size t hs3 (by omega)).mono ?_
   rintro e w4 ⟨a4,n4,c4,size4,rfl,hr4,hs4,hf4⟩
   have hz4:=hf4.size
   go_wp2_with fail
   refine (HE.out _ w4 nv nl fv F ret loops count size4 t hs4 (by omega)).mono ?_
   rintro e w5 ⟨a5,n5,c5,size5,rfl,hr5,hs5,hf5⟩
   have hz5:=hf5.size
   go_wp2_with fail
   refine (Gn.bin _ (hr4.fr hf5) hr5 (by omega)).mono ?_
   rintro e w6 ⟨a6,n6,c6,rfl,hr6,hb6⟩
   go_wp2_with fail
   go_ret
   exact ⟨a6,n6,c6,size5,rfl,hr6.mono (by omega) (by omega),(hs5.below hb6).mono (by omega),((((hf1.trans hf2).trans hf3).trans hf4).trans hf5).trans (Gn.Fr.of_below hb6)⟩
end Go.Proofs.YtfoimmnlojjfbaaGreatDoor
