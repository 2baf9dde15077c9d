import Derived.Test.YtkikhpppkpelfaaGreatKTk
import Derived.Test.YtkikhpppkpelfaaGreatKRepA
import Derived.Test.YtkikhpppkpelfaaGreatBxS
import Derived.Test.YtkikhpppkpelfaaGreatKBoxD
import Derived.Maps.OwnSet
import Derived.Deep.RegionHeld3
set_option maxRecDepth 100000
set_option maxHeartbeats 2000000
namespace Go.Proofs.YtkikhpppkpelfaaGreat
open Go.RowKit
def Bi.ints (l:List ByteArray):List Value:=l.map Value.string
theorem Bi.ints_one {l:List ByteArray}:∀ v ∈ Bi.ints l,v.oneCell'=true:=fun v hv=>by
  simp only [Bi.ints,List.mem_map] at hv
  obtain ⟨x,_,rfl⟩:=hv;rfl
theorem Bi.new_at (w:World) (o:Obj):(w.alloc o).drew.heap[w.heap.size]? = some o:=(MapKept.heap_alloc w o).1
theorem Bi.b1 (w:World) (o:Obj):Below w.heap.size w (w.alloc o).drew:=((Below.refl _ w).alloc (Nat.le_refl _) o).drew
def Bi.InsertPost (B:Nat) (l':List ByteArray) (row:Option Nat) (w:World) (e:Ending) (w':World):Prop := ∃ a' cap',e = .returned (.slice a' l'.length cap')∧w'.ownsRow B 9 1 (.slice a' l'.length cap') l'.length (Bi.ints l')∧w.grownBy w' row
theorem Bi.cells_set (g:Nat):∀ (vs:List Value) (o:Nat) (w:World) (cur:Array Value) (e:TypeId) (fr:Nat × Nat),w.heap[g]? = some (.cells cur e fr)→∃ cur',(w.setCells g o vs).heap[g]? = some (.cells cur' e fr)∧cur'.size=cur.size∧∀ j,cur'[j]? = if o≤j∧j < o+vs.length∧j < cur.size then vs[j - o]? else cur[j]?
  | [],o,w,cur,e,fr,h=>⟨cur,h,rfl,fun j=>by rw [if_neg];simp;omega⟩
  | v::r,o,w,cur,e,fr,h=>by
    have h1:(w.setCell ⟨g,o,none⟩ v).heap[g]? = some (.cells (cur.setIfInBounds o v) e fr):=by
      simp [World.setCell,Array.getElem?_modify,h]
    obtain ⟨cur',h2,h3,h4⟩:=Bi.cells_set g r (o+1) _ _ e fr h1
    refine ⟨cur',h2,by rw [h3];simp,fun j => ?_⟩
    rw [h4 j]
    simp only [Array.size_setIfInBounds,List.length_cons]
    by_cases hj:o+1≤j∧j < o+1+r.length∧j < cur.size
    · rw [if_pos hj,if_pos (by omega),show j - o=(j - (o+1))+1 by omega,List.getElem?_cons_succ]
    · rw [if_neg hj,Array.getElem?_setIfInBounds]
      by_cases e1:o=j
      · subst e1
        rw [if_pos rfl]
        by_cases hs:o < cur.size
        · rw [if_pos hs,if_pos (by omega)];simp
        · rw [if_neg hs,if_neg (by omega),Array.getElem?_eq_none (by omega)]
      · rw [if_neg e1,if_neg (by omega)]
theorem Bi.grown_set (g:Nat):∀ (vs:List Value) (o:Nat) (w:World),w.grownBy (w.setCells g o vs) (some g)
  | [],_,_=>⟨rfl,rfl,rfl,Nat.le_refl _,fun _ _ _=>rfl⟩
  | v::r,o,w=>by
    have h:=Bi.grown_set g r (o+1) (w.setCell ⟨g,o,none⟩ v)
    have hs:(w.setCell ⟨g,o,none⟩ v).heap.size=w.heap.size:=World.size_setCell ..
    refine ⟨h.os,h.tape,h.output,by rw [← hs];exact h.size,fun k hk hne=>(h.block k (by rw [hs];exact hk) hne).trans ?_⟩
    have hkg:¬ g=k:=fun e=>hne (by rw [e])
    simp [World.setCell,Array.getElem?_modify,hkg]
theorem Bi.ints_get (l:List ByteArray) (j:Nat):(Bi.ints l)[j]? = (l[j]?).map (fun z=>Value.string z):=by
  simp [Bi.ints]
theorem Bi.ins_list (l:List ByteArray) (x:ByteArray) (i:Nat) (hi:i≤l.length) (j:Nat):(l.take i++[x]++l.drop i)[j]? = if j < i then l[j]? else if j=i then some x else l[j - 1]?:=by
  by_cases h1:j < i
  · rw [if_pos h1,List.append_assoc,List.getElem?_append_left (by rw [List.length_take];omega),List.getElem?_take,if_pos h1]
  · rw [if_neg h1,List.append_assoc,List.getElem?_append_right (by rw [List.length_take];omega),List.length_take,Nat.min_eq_left hi]
    by_cases h2:j=i
    · subst h2;rw [if_pos rfl,Nat.sub_self];rfl
    · rw [if_neg h2,show j - i=(j - i - 1)+1 by omega]
      show (l.drop i)[j - i - 1]? = _
      rw [List.getElem?_drop];congr 1;omega
theorem Bi.insert_shift (B:Nat) (l:List ByteArray) (n i:Nat) (hn:l.length=n) (hi:i < n) (x:ByteArray) (a:Option Addr) (cap vb:Nat) (w:World) (hl:n≤1000000) (hroom:n+1≤cap) (hown:w.ownsRow B 9 1 (.slice a n cap) n (Bi.ints l)) (hv:w.heap[vb]? = some (.cells #[.string x] 9 (0,0))) (hne:(Value.slice a n cap).ownBlock≠some vb) :
    Calls Tryz.prog 33 #[.slice a n cap,.int .i64 (i:Int),.slice (some ⟨vb,0,none⟩) 1 1] w (Bi.InsertPost B (l.take i++[x]++l.drop i) (Value.slice a n cap).ownBlock w):=by
  obtain ⟨hx,hr⟩:=hown
  rcases hr with ⟨h,h0⟩ | ⟨g,c2,cur,h,hBg,hg,hnc,hmx,hsz,htk⟩
  · omega
  · injection h with e1 e2 e3
    subst e1 e3
    have hvg:vb≠g:=fun e=>hne (by rw [e];rfl)
    rw [Nat.mul_one] at hsz htk
    have hcell:∀ j,j < cap→w.cell? ⟨g,0+j,none⟩=cur[j]?:=fun j _=>by rw [Nat.zero_add];exact Lib.cell_of_heap hg j
    have hcur:∀ j,j < n→cur[j]? = (Bi.ints l)[j]?:=fun j hj=>by
      rw [← htk,List.getElem?_take,if_pos hj,Array.getElem?_toList]
    have hsome:∀ j,j < cap→(cur[j]?).isSome=true:=fun j hj=>by rw [Array.getElem?_eq_getElem (by omega)];rfl
    have hlen:(l.take i++[x]++l.drop i).length=n+1:=by simp;omega
    have hcall:=Any2.slices_Insert_string_shift Tryz.laysIns g 0 n cap i vb 0 1 1 (Bi.ints l) [.string x] w hi (by omega) hroom (by have:=hmx;unfold maxLen at this;omega) hvg (by simp [Bi.ints,hn]) rfl
      (fun j v hj=>by
        have hjn:j < n:=by
          have:=(List.getElem?_eq_some_iff.1 hj).1
          simpa [Bi.ints,hn] using this
        rw [hcell j (by omega),hcur j hjn];exact hj)
      (fun j hj=>by rw [hcell j (by omega)];exact hsome j (by omega))
      (fun j hj=>by simp [World.frozen?,hg])
      (fun j v hj=>by
        have hj0:j=0:=by have:=(List.getElem?_eq_some_iff.1 hj).1;simpa using this
        subst hj0
        rw [Lib.cell_of_heap hv];simpa using hj)
      Bi.ints_one (fun v hv=>by simp at hv;rw [hv];rfl)
      9 9 1 cap (by simp [World.shape?,hv]) (by simp [World.shape?,hg,hsz]) (by omega) (by simp [World.frozen?,hv]) (by simp [World.frozen?,hv])
    refine hcall.mono ?_
    rintro e w' ⟨rfl,rfl⟩
    obtain ⟨c1,k1,k2,k3⟩:=Bi.cells_set g ((Bi.ints l).drop i) (0+(i+1)) w.drew cur 9 (0,0) hg
    obtain ⟨c2,m1,m2,m3⟩:=Bi.cells_set g [.string x] (0+i) _ c1 9 (0,0) k1
    refine ⟨some ⟨g,0,none⟩,cap,by rw [hlen], ?_, ?_⟩
    · rw [hlen]
      refine ⟨by simp [Bi.ints];omega,.inr ⟨g,cap,c2,rfl,hBg,m1,hroom,hmx,by rw [m2,k2,hsz,Nat.mul_one], ?_⟩⟩
      rw [Nat.mul_one]
      apply List.ext_getElem?
      intro j
      rw [List.getElem?_take,Bi.ints_get,Bi.ins_list l x i (by omega),Array.getElem?_toList,m3 j,k3 j]
      simp only [List.length_singleton,List.length_drop,Nat.zero_add,k2,hsz]
      have hil:(Bi.ints l).length=n:=by simp [Bi.ints,hn]
      by_cases hjn:j < n+1
      · rw [if_pos hjn]
        by_cases h1:j < i
        · rw [if_neg (by omega),if_neg (by omega),if_pos h1,hcur j (by omega),Bi.ints_get]
        · by_cases h2:j=i
          · subst h2
            rw [if_pos (by omega),if_neg h1,if_pos rfl,Nat.sub_self];rfl
          · rw [if_neg (by omega),if_pos (by rw [hil];omega),if_neg h1,if_neg h2,List.getElem?_drop,Bi.ints_get]
            congr 2;omega
      · rw [if_neg hjn,if_neg (by omega),if_neg (by omega),List.getElem?_eq_none (by omega)];rfl
    · have h1:=Bi.grown_set g ((Bi.ints l).drop i) (0+(i+1)) w.drew
      have h2:=Bi.grown_set g [.string x] (0+i) (w.drew.setCells g (0+(i+1)) ((Bi.ints l).drop i))
      exact ⟨h2.os.trans h1.os,h2.tape.trans h1.tape,h2.output.trans h1.output,Nat.le_trans h1.size h2.size,fun k hk hne2=>(h2.block k (Nat.lt_of_lt_of_le hk h1.size) hne2).trans (h1.block k hk hne2)⟩
theorem Bi.insert_end (B:Nat) (l:List ByteArray) (n:Nat) (hn:l.length=n) (x:ByteArray) (a:Option Addr) (cap vb:Nat) (w:World) (hl:n≤1000000) (hB:B≤w.heap.size) (hown:w.ownsRow B 9 1 (.slice a n cap) n (Bi.ints l)) (hv:w.heap[vb]? = some (.cells #[.string x] 9 (0,0))) :
    Calls Tryz.prog 33 #[.slice a n cap,.int .i64 (n:Int),.slice (some ⟨vb,0,none⟩) 1 1] w (Bi.InsertPost B (l++[x]) (Value.slice a n cap).ownBlock w):=by
  have hlen:(l++[x]).length=n+1:=by simp [hn]
  have hil:(Bi.ints l).length=n:=by simp [Bi.ints,hn]
  have hvs:∀ j v,[Value.string x][j]? = some v→w.cell? ⟨vb,0+j,none⟩=some v:=fun j v hj=>by
    have hj0:j=0:=by have:=(List.getElem?_eq_some_iff.1 hj).1;simpa using this
    subst hj0
    rw [Lib.cell_of_heap hv];simpa using hj
  have h1v:∀ v ∈ [Value.string x],v.oneCell'=true:=fun v hv=>by simp at hv;rw [hv];rfl
  by_cases hroom:n+1≤cap
  · obtain ⟨hx,hr⟩:=hown
    rcases hr with ⟨h,h0⟩ | ⟨g,c2,cur,h,hBg,hg,hnc,hmx,hsz,htk⟩
    · injection h with _ _ e3;omega
    · injection h with e1 e2 e3
      subst e1 e3
      rw [Nat.mul_one] at hsz htk
      have hcall:=Any2.slices_Insert_string_end_room Tryz.laysIns g 0 n cap vb 0 1 1 [.string x] w (by omega) hroom (by have:=hmx;unfold maxLen at this;omega) rfl
        (fun j hj=>by rw [Nat.zero_add,Lib.cell_of_heap hg,Array.getElem?_eq_getElem (by omega)];rfl)
        (fun j hj=>by simp [World.frozen?,hg])
        hvs h1v
      refine hcall.mono ?_
      rintro e w' ⟨rfl,rfl⟩
      obtain ⟨c1,k1,k2,k3⟩:=Bi.cells_set g [.string x] (0+n) w cur 9 (0,0) hg
      refine ⟨some ⟨g,0,none⟩,cap,by rw [hlen], ?_,Bi.grown_set g [.string x] (0+n) w⟩
      rw [hlen]
      refine ⟨by simp [Bi.ints,hn],.inr ⟨g,cap,c1,rfl,hBg,k1,hroom,hmx,by rw [k2,hsz,Nat.mul_one], ?_⟩⟩
      rw [Nat.mul_one]
      apply List.ext_getElem?
      intro j
      rw [List.getElem?_take,Array.getElem?_toList,k3 j]
      have hcur:∀ j,j < n→cur[j]? = (Bi.ints l)[j]?:=fun j hj=>by
        rw [← htk,List.getElem?_take,if_pos hj,Array.getElem?_toList]
      have e1:Bi.ints (l++[x])=Bi.ints l++[.string x]:=by simp [Bi.ints]
      rw [e1]
      simp only [List.length_singleton,Nat.zero_add]
      by_cases hjn:j < n+1
      · rw [if_pos hjn]
        by_cases h2:j=n
        · subst h2
          rw [if_pos (by omega),Nat.sub_self,List.getElem?_append_right (by omega),hil,Nat.sub_self]
        · rw [if_neg (by omega),hcur j (by omega),List.getElem?_append_left (by omega)]
      · rw [if_neg hjn,List.getElem?_eq_none (by simp [hil];omega)]
  · have hnc:n≤cap:=by
      rcases hown.2 with ⟨h,h0⟩ | ⟨g,c2,cur,h,_,_,h3,_⟩
      · omega
      · injection h with _ _ e;omega
    have hcall:=Any2.slices_Insert_string_end_grow Tryz.laysIns a n cap vb 0 1 1 (Bi.ints l) [.string x] w (by omega) hnc (by omega) (by omega) hil rfl
      (fun ha=>by
        rcases hown.2 with ⟨h,h0⟩ | ⟨g,c2,cur,h,_⟩
        · exact h0
        · injection h with e1;rw [ha] at e1;cases e1)
      (fun b hb j v hj=>by
        rcases hown.2 with ⟨h,h0⟩ | ⟨g,c2,cur,h,_,hg,_,_,_,htk⟩
        · injection h with e1;rw [hb] at e1;cases e1
        · injection h with e1 e2 e3
          rw [hb] at e1
          injection e1 with e1
          subst e1
          have hjn:j < n:=by have:=(List.getElem?_eq_some_iff.1 hj).1;omega
          have hadd:(Addr.add ⟨g,0,none⟩ j)=⟨g,0+j,none⟩:=by unfold Addr.add;split <;> simp_all
          rw [Nat.mul_one] at htk
          rw [hadd,Nat.zero_add,Lib.cell_of_heap hg]
          rw [← hj,← htk,List.getElem?_take,if_pos hjn,Array.getElem?_toList])
      hvs h1v
    refine hcall.mono ?_
    rintro e w' ⟨rfl,rfl⟩
    obtain ⟨gc,hgc⟩:∃ gc,grownCap w (n+1) cap 9=gc:=⟨_,rfl⟩
    have hge:n+1≤gc:=by rw [← hgc];exact grownCap_ge _ _ _ _
    have hle:gc≤maxLen:=by rw [← hgc];exact grownCap_le_maxLen _ _ _ _ (by unfold maxLen;omega)
    change Bi.InsertPost B _ _ w (.returned (.slice (some ⟨w.heap.size,0,none⟩) (n+1) (grownCap w (n+1) cap 9))) (w.drew.alloc (.cells ((Bi.ints l++[Value.string x]).toArray++Builtin.zeroCells (Value.string ⟨#[]⟩).cells (grownCap w (n+1) cap 9 - (n+1))) 9))
    rw [hgc]
    have hz1:(Value.string ⟨#[]⟩).cells.size=1:=rfl
    have e1:Bi.ints (l++[x])=Bi.ints l++[.string x]:=by simp [Bi.ints]
    refine ⟨some ⟨w.heap.size,0,none⟩,gc,by rw [hlen], ?_, ?_⟩
    · rw [hlen,e1]
      refine ⟨by simp [hil],.inr ⟨w.heap.size,gc,_,rfl,hB,(MapKept.heap_alloc w.drew _).1,hge,hle, ?_, ?_⟩⟩
      · rw [Array.size_append,size_zeroCells,hz1];simp [hil];omega
      · rw [Nat.mul_one,Array.toList_append,List.take_append_of_le_length (by simp [hil])]
        rw [List.take_of_length_le (by simp [hil])]
    · exact ⟨rfl,rfl,rfl,by show _≤(w.drew.alloc _).heap.size;rw [World.size_alloc];exact Nat.le_succ _,fun k hk _=>(((Below.refl _ w).drew.alloc (Nat.le_refl _) _).block k hk)⟩
theorem Bi.insert_grow (B:Nat) (l:List ByteArray) (n i:Nat) (hn:l.length=n) (hi:i < n) (x:ByteArray) (a:Option Addr) (cap vb:Nat) (w:World) (hl:n≤1000000) (hB:B≤w.heap.size) (hroom:cap < n+1) (hown:w.ownsRow B 9 1 (.slice a n cap) n (Bi.ints l)) (hv:w.heap[vb]? = some (.cells #[.string x] 9 (0,0))) :
    Calls Tryz.prog 33 #[.slice a n cap,.int .i64 (i:Int),.slice (some ⟨vb,0,none⟩) 1 1] w (Bi.InsertPost B (l.take i++[x]++l.drop i) (Value.slice a n cap).ownBlock w):=by
  obtain ⟨hx,hr⟩:=hown
  rcases hr with ⟨h,h0⟩ | ⟨g,c2,cur,h,hBg,hg,hnc,hmx,hsz,htk⟩
  · omega
  · injection h with e1 e2 e3
    subst e1 e3
    rw [Nat.mul_one] at hsz htk
    have hcur:∀ j,j < n→cur[j]? = (Bi.ints l)[j]?:=fun j hj=>by
      rw [← htk,List.getElem?_take,if_pos hj,Array.getElem?_toList]
    have hlen:(l.take i++[x]++l.drop i).length=n+1:=by simp;omega
    have hil:(Bi.ints l).length=n:=by simp [Bi.ints,hn]
    have hcall:=Any2.slices_Insert_string_grow Tryz.laysIns g 0 n cap i vb 0 1 1 (Bi.ints l) [.string x] w hi (by omega) hnc hroom (by omega) hil rfl
      (fun j v hj=>by
        have hjn:j < n:=by
          have:=(List.getElem?_eq_some_iff.1 hj).1
          omega
        rw [Nat.zero_add,Lib.cell_of_heap hg,hcur j hjn];exact hj)
      (fun j v hj=>by
        have hj0:j=0:=by have:=(List.getElem?_eq_some_iff.1 hj).1;simpa using this
        subst hj0
        rw [Lib.cell_of_heap hv];simpa using hj)
      Bi.ints_one (fun v hv=>by simp at hv;rw [hv];rfl)
    refine hcall.mono ?_
    rintro e w' ⟨rfl,rfl⟩
    obtain ⟨gc,hgc⟩:∃ gc,grownCap w (n+1) cap 9=gc:=⟨_,rfl⟩
    have hge:n+1≤gc:=by rw [← hgc];exact grownCap_ge _ _ _ _
    have hle:gc≤maxLen:=by rw [← hgc];exact grownCap_le_maxLen _ _ _ _ (by unfold maxLen;omega)
    change Bi.InsertPost B _ _ w (.returned (.slice (some ⟨w.heap.size,0,none⟩) (n+1) (grownCap w (n+1) cap 9))) ((((w.alloc (.cells (((Bi.ints l).take i).toArray++Builtin.zeroCells (Value.string ⟨#[]⟩).cells (n+1 - i)++Builtin.zeroCells (Value.string ⟨#[]⟩).cells (grownCap w (n+1) cap 9 - (n+1))) 9)).drew.setCells w.heap.size i [.string x]).drew).setCells w.heap.size (i+1) ((Bi.ints l).drop i))
    rw [hgc]
    obtain ⟨c0,hc0⟩:∃ c0,((Bi.ints l).take i).toArray++Builtin.zeroCells (Value.string ⟨#[]⟩).cells (n+1 - i)++Builtin.zeroCells (Value.string ⟨#[]⟩).cells (gc - (n+1))=c0:=⟨_,rfl⟩
    have hz1:(Value.string ⟨#[]⟩).cells.size=1:=rfl
    have hs0:c0.size=gc:=by
      rw [← hc0,Array.size_append,Array.size_append,size_zeroCells,size_zeroCells,hz1]
      simp [hil];omega
    have hpre:∀ j,j < i→c0[j]? = (Bi.ints l)[j]?:=fun j hj=>by
      rw [← hc0,Array.append_assoc,Array.getElem?_append_left (by simp [hil];omega)]
      simp [hj]
    rw [hc0]
    have hW:(w.alloc (.cells c0 9)).drew.heap[w.heap.size]? = some (.cells c0 9 (0,0)):=Bi.new_at w _
    obtain ⟨c1,k1,k2,k3⟩:=Bi.cells_set w.heap.size [.string x] i (w.alloc (.cells c0 9)).drew c0 9 (0,0) hW
    obtain ⟨c2,m1,m2,m3⟩:=Bi.cells_set w.heap.size ((Bi.ints l).drop i) (i+1) (((w.alloc (.cells c0 9)).drew.setCells w.heap.size i [.string x]).drew) c1 9 (0,0) k1
    refine ⟨some ⟨w.heap.size,0,none⟩,gc,by rw [hlen], ?_, ?_⟩
    · rw [hlen]
      refine ⟨by simp [Bi.ints];omega,.inr ⟨w.heap.size,gc,c2,rfl,hB,m1,hge,hle,by rw [m2,k2,hs0,Nat.mul_one], ?_⟩⟩
      rw [Nat.mul_one]
      apply List.ext_getElem?
      intro j
      rw [List.getElem?_take,Bi.ints_get,Bi.ins_list l x i (by omega),Array.getElem?_toList,m3 j,k3 j]
      simp only [List.length_singleton,List.length_drop,k2,hs0]
      by_cases hjn:j < n+1
      · rw [if_pos hjn]
        by_cases h1:j < i
        · rw [if_neg (by omega),if_neg (by omega),if_pos h1,hpre j h1,Bi.ints_get]
        · by_cases h2:j=i
          · subst h2
            rw [if_neg (by omega),if_pos (by omega),if_neg h1,if_pos rfl,Nat.sub_self];rfl
          · rw [if_pos (by rw [hil];omega),if_neg h1,if_neg h2,List.getElem?_drop,Bi.ints_get]
            congr 2;omega
      · rw [if_neg hjn,if_neg (by omega),if_neg (by omega),List.getElem?_eq_none (by omega)];rfl
    · have h1:=Bi.grown_set w.heap.size [.string x] i (w.alloc (.cells c0 9)).drew
      have h2:=Bi.grown_set w.heap.size ((Bi.ints l).drop i) (i+1) (((w.alloc (.cells c0 9)).drew.setCells w.heap.size i [.string x]).drew)
      have hs:w.heap.size≤(w.alloc (.cells c0 9)).drew.heap.size:=by show _≤(w.alloc (.cells c0 9)).heap.size;rw [World.size_alloc];omega
      exact ⟨h2.os.trans h1.os,h2.tape.trans h1.tape,h2.output.trans h1.output,Nat.le_trans hs (Nat.le_trans h1.size h2.size),fun k hk _=>by
        have hkne:some k≠some w.heap.size:=fun e=>by injection e with e;omega
        exact ((h2.block k (Nat.lt_of_lt_of_le (Nat.lt_of_lt_of_le hk hs) h1.size) hkne).trans (h1.block k (Nat.lt_of_lt_of_le hk hs) hkne)).trans ((Bi.b1 w _).block k hk)⟩
theorem Bi.insert_any (B:Nat) (l:List ByteArray) (n i:Nat) (hn:l.length=n) (hi:i≤n) (x:ByteArray) (a:Option Addr) (cap vb:Nat) (w:World) (hl:n≤1000000) (hB:B≤w.heap.size) (hown:w.ownsRow B 9 1 (.slice a n cap) n (Bi.ints l)) (hv:w.heap[vb]? = some (.cells #[.string x] 9 (0,0))) (hne:(Value.slice a n cap).ownBlock≠some vb) :
    Calls Tryz.prog 33 #[.slice a n cap,.int .i64 (i:Int),.slice (some ⟨vb,0,none⟩) 1 1] w (Bi.InsertPost B (l.take i++[x]++l.drop i) (Value.slice a n cap).ownBlock w):=by
  by_cases hin:i=n
  · subst hin
    have e:l.take i++[x]++l.drop i=l++[x]:=by rw [← hn,List.take_length,List.drop_length];simp
    rw [e]
    exact Bi.insert_end B l i hn x a cap vb w hl hB hown hv
  · by_cases hroom:n+1≤cap
    · exact Bi.insert_shift B l n i hn (by omega) x a cap vb w hl hroom hown hv hne
    · exact Bi.insert_grow B l n i hn (by omega) x a cap vb w hl hB (by omega) hown hv
end Go.Proofs.YtkikhpppkpelfaaGreat
namespace Go.Proofs.YtkikhpppkpelfaaGreat
open Go.RowKit Go.Maps Go.WideMaps
def Bx.dF (f:Bx.Fl):DataW Unit:=.agg [.lit (.string f.name.data.toList),.lit (.string f.text.data.toList)]
def Bx.elem (v:Value):Option (DataW Unit × List MemPlace) :=
  match v with
  | .agg cs=>match cs.toList with
    | [.string a,.string b]=>some (Bx.dF ⟨a,b⟩,[])
    | _=>none
  | _=>none
theorem Bx.elem_mk (a b:ByteArray):Bx.elem (.agg #[.string a,.string b])=some (Bx.dF ⟨a,b⟩,[]):=rfl
theorem Bx.data_eq {a b:ByteArray} (h:a.data.toList=b.data.toList):a=b:=ByteArray.ext (Array.toList_inj.1 h)
theorem Bx.elem_inv {v:Value} {f:Bx.Fl} {ps:List MemPlace} (h:Bx.elem v=some (Bx.dF f,ps)):v = .agg #[.string f.name,.string f.text]:=by
  unfold Bx.elem at h
  split at h
  · rename_i cs
    split at h
    · rename_i a b hl
      obtain ⟨l⟩:=cs
      simp only at hl
      subst hl
      simp only [Bx.dF,Option.some.injEq,Prod.mk.injEq,DataW.agg.injEq,List.cons.injEq,DataW.lit.injEq,Lit.string.injEq,and_true] at h
      obtain ⟨⟨h1,h2⟩,_⟩:=h
      rw [Bx.data_eq h1,Bx.data_eq h2]
    · cases h
  · cases h
def Bx.Reads (D:DataW Unit) (fs:List Bx.Fl):Prop:=IsMap D∧∀ (x:ByteArray) (zd:DataW Unit),D.atKey (.string x.data.toList) zd=match Bx.look fs x with | some f=>Bx.dF f | none=>zd
theorem Bx.reads_nil : Bx.Reads (.map []) []:=⟨⟨_,rfl⟩,fun _ _=>rfl⟩
theorem Bx.Reads.has {D:DataW Unit} {fs:List Bx.Fl} (h:Bx.Reads D fs) (x:ByteArray):Maps.has D (.string x.data.toList)=(Bx.look fs x).isSome:=by
  have h2:=h.2 x
  cases hl:Bx.look fs x with
  | none=>rw [hl] at h2;exact Maps.has_false_of_atKey h2
  | some f=>rw [hl] at h2;exact Maps.has_true_of_atKey h2
theorem Bx.Reads.put {D:DataW Unit} {fs:List Bx.Fl} (h:Bx.Reads D fs) (hu:Bx.Up fs) (f:Bx.Fl):Bx.Reads (D.put (.string f.name.data.toList) (Bx.dF f)) (Bx.put fs f):=by
  refine ⟨?_,fun x zd => ?_⟩
  · obtain ⟨l,rfl⟩:=h.1;exact ⟨_,rfl⟩
  · rw [Bx.look_put hu]
    by_cases e:f.name=x
    · subst e
      rw [if_pos rfl,Maps.atKey_put_same h.1 (by trivial)]
    · have hne:(Lit.string x.data.toList)≠(Lit.string f.name.data.toList):=fun e2=>e (by injection e2 with e2;exact (Bx.data_eq e2).symm)
      rw [if_neg e,Maps.atKey_put_other hne];exact h.2 x zd
def Bx.MapIs (w:World) (mb n:Nat) (fs:List Bx.Fl):Prop := ∃ D,w.ownsMap Tryz.prog 9 Bx.elem mb n D∧Bx.Reads D fs
theorem Tryz.lawStr : Keyed Tryz.prog 9:=string_keyed Tryz.underlying9
theorem Tryz.zeroFile (w:World):(zeroValue 36).run Tryz.prog w = .ok (.agg #[.string ⟨#[]⟩,.string ⟨#[]⟩]) w:=by kernel_rfl
theorem Bx.MapIs.below {w w':World} {mb n:Nat} {fs:List Bx.Fl} (h:Bx.MapIs w mb n fs) (hb:Below w.heap.size w w'):Bx.MapIs w' mb n fs:=by
  obtain ⟨D,ho,hr⟩:=h
  exact ⟨D,World.ownsMap.kept (row:=none) ho ⟨hb.os,hb.tape,hb.output,hb.size,fun k hk _=>hb.block k hk⟩ (by simp),hr⟩
structure Bx.BoxAt (w:World) (B g:Nat) (fs:List Bx.Fl) (ns:List ByteArray) (mb K:Nat) (a:Option Addr) (n cap:Nat):Prop where
  blk:w.heap[g]? = some (.cells #[.map (some mb),.slice a n cap] 54 (0,0))
  le:B≤g
  lem:B≤mb
  map:Bx.MapIs w mb K fs
  row:w.ownsRow B 9 1 (.slice a n cap) n (Bi.ints ns)
theorem Bx.BoxAt.below {w w':World} {B g:Nat} {fs:List Bx.Fl} {ns:List ByteArray} {mb K:Nat} {a:Option Addr} {n cap:Nat} (h:Bx.BoxAt w B g fs ns mb K a n cap) (hb:Below w.heap.size w w'):Bx.BoxAt w' B g fs ns mb K a n cap:=by
  exact ⟨by rw [hb.block g (Array.getElem?_eq_some_iff.1 h.blk).1];exact h.blk,h.le,h.lem,h.map.below hb,Bx.own_below h.row hb⟩
def Bx.val : Option Bx.Fl→Value
  | some f => .agg #[.string f.name,.string f.text]
  | none => .agg #[.string ⟨#[]⟩,.string ⟨#[]⟩]
theorem Bx.BoxAt.look {w:World} {B g:Nat} {fs:List Bx.Fl} {ns:List ByteArray} {mb K:Nat} {a:Option Addr} {n cap:Nat} (h:Bx.BoxAt w B g fs ns mb K a n cap) {x:ByteArray} (hx:x.size≤1048576) :
    (Instr.lookup 52 (.map (some mb)) (.string x) true).run Tryz.prog w = .ok (.tuple #[Bx.val (Bx.look fs x),.bool (Bx.look fs x).isSome]) w:=by
  obtain ⟨D,ho,hr⟩:=h.map
  obtain ⟨v,ps,hrun,hv⟩:=ho.look_ok Tryz.lawStr Tryz.underlying52 (Tryz.zeroFile w) (Bx.elem_mk _ _) (keyOf_string_mk Tryz.underlying9 (s:=x) (by unfold maxLen;omega))
  rw [hr.has] at hrun
  rw [hr.2] at hv
  rw [hrun]
  cases hl:Bx.look fs x with
  | none=>rw [hl] at hv;rw [Bx.elem_inv hv];rfl
  | some f=>rw [hl] at hv;rw [Bx.elem_inv hv];rfl
theorem Bx.MapIs.store {w:World} {mb K:Nat} {fs:List Bx.Fl} (h:Bx.MapIs w mb K fs) (hu:Bx.Up fs) (hK:K≤1000000) (a b:ByteArray) (ha:a.size≤1048576) :
    ∃ w',(Instr.mapUpdate 52 (.map (some mb)) (.string a) (.agg #[.string a,.string b])).run Tryz.prog w = .ok () w'∧Bx.MapIs w' mb (K+1) (Bx.put fs ⟨a,b⟩)∧w.grownBy w' (some mb):=by
  obtain ⟨D,ho,hr⟩:=h
  obtain ⟨w',hrun,ho',hg⟩:=ho.update Tryz.lawStr Tryz.underlying52 (by unfold maxLen;omega) (keyOf_string_mk Tryz.underlying9 (s:=a) (by unfold maxLen;omega)) (Bx.elem_mk a b)
  exact ⟨w',hrun,⟨_,ho',hr.put hu ⟨a,b⟩⟩,hg⟩
theorem Bx.BoxAt.ne {w:World} {B g:Nat} {fs:List Bx.Fl} {ns:List ByteArray} {mb K:Nat} {a:Option Addr} {n cap:Nat} (h:Bx.BoxAt w B g fs ns mb K a n cap):g≠mb:=fun e=>by
  obtain ⟨D,⟨es,clock,hb,_⟩,_⟩:=h.map
  rw [← e,h.blk] at hb;cases hb
theorem Bx.BoxAt.rowne {w:World} {B g:Nat} {fs:List Bx.Fl} {ns:List ByteArray} {mb K:Nat} {a:Option Addr} {n cap:Nat} (h:Bx.BoxAt w B g fs ns mb K a n cap):(Value.slice a n cap).ownBlock=none∨((Value.slice a n cap).ownBlock≠some mb∧(Value.slice a n cap).ownBlock≠some g):=by
  obtain ⟨D,⟨es,clock,hb,_⟩,_⟩:=h.map
  rcases h.row.2 with ⟨hv,_⟩ | ⟨g2,cap2,cur,hv,_,hg2,_⟩
  · rw [hv];exact .inl rfl
  · rw [hv]
    refine .inr ⟨fun e => ?_,fun e => ?_⟩
    · have:g2=mb:=by simpa [Value.ownBlock] using e
      rw [this,hb] at hg2;cases hg2
    · have:g2=g:=by simpa [Value.ownBlock] using e
      rw [this,h.blk] at hg2
      injection hg2 with hg2;injection hg2 with _ h2;exact absurd h2 (by decide)
theorem Bx.BoxAt.store {w:World} {B g:Nat} {fs fs':List Bx.Fl} {ns:List ByteArray} {mb K:Nat} {a0:Option Addr} {n cap:Nat} (h:Bx.BoxAt w B g fs ns mb K a0 n cap) {w':World} (hm:Bx.MapIs w' mb (K+1) fs') (hg:w.grownBy w' (some mb)):Bx.BoxAt w' B g fs' ns mb (K+1) a0 n cap:=by
  refine ⟨by rw [hg.block g (Array.getElem?_eq_some_iff.1 h.blk).1 (fun e=>h.ne (by injection e))];exact h.blk,h.le,h.lem,hm, ?_⟩
  refine h.row.kept hg ?_
  rcases h.rowne with h1 | h1
  · exact .inl h1
  · exact .inr h1.1
theorem Bx.look_mem {fs:List Bx.Fl} {x:ByteArray} {f:Bx.Fl} (h:Bx.look fs x=some f):∃ a ∈ fs,a.name=x:=by
  unfold Bx.look at h
  exact ⟨f,List.mem_of_find?_eq_some h,by simpa using List.find?_some h⟩
def Bx.SetPost (B g:Nat) (fs:List Bx.Fl) (mb K:Nat) (a b:ByteArray) (w:World) (e:Ending) (w':World):Prop:=e = .returned (.tuple #[])∧(∃ a1 n1 cap1,(Bx.put fs ⟨a,b⟩).length=n1∧Bx.BoxAt w' B g (Bx.put fs ⟨a,b⟩) ((Bx.put fs ⟨a,b⟩).map Bx.Fl.name) mb (K+1) a1 n1 cap1)∧Below B w w'
theorem Bx.search_any (B:Nat) (fs:List Bx.Fl) (hu:Bx.Up fs) (a0:Option Addr) (n cap:Nat) (hn:fs.length=n) (x:ByteArray) (w:World) (hl:n≤1000000) (hrow:w.ownsRow B 9 1 (.slice a0 n cap) n (Bi.ints (fs.map Bx.Fl.name))) (hx:Bx.look fs x=none) :
    Calls Tryz.prog 32 #[.slice a0 n cap,.string x] w fun e w'=>e = .returned (.tuple #[.int .i64 (Bx.cut fs x:Nat),.bool false])∧∃ q,w'=w.drewN q:=by
  rcases hrow.2 with ⟨hv,h0⟩ | ⟨g,c2,cur,hv,_,hg,hnc,_,hsz,htk⟩
  · injection hv with e1 e2 e3
    subst h0 e1
    have hfs:fs=[]:=List.length_eq_zero_iff.1 hn
    subst hfs
    refine (Any2.slices_BinarySearch_string_empty Tryz.laysBs none cap x w).mono ?_
    rintro e w' ⟨rfl,rfl⟩
    exact ⟨rfl,0,rfl⟩
  · injection hv with e1 e2 e3
    subst e1 e3
    have hS:∀ t (ht:t < fs.length),((fs[t]?).map Bx.Fl.name).getD ByteArray.empty=fs[t].name:=fun t ht=>by simp [List.getElem?_eq_getElem ht]
    have hcall:=Any2.slices_BinarySearch_string Tryz.laysBs g 0 n cap (fun t=>((fs[t]?).map Bx.Fl.name).getD ByteArray.empty) x w (by omega) (fun j hj=>by
      have hj2:j < fs.length:=by omega
      rw [hS j hj2,Nat.zero_add,hrow.cellAt j (by omega)]
      simp [Bi.ints,List.getElem?_eq_getElem hj2])
    refine hcall.mono ?_
    rintro e w' ⟨rfl,q,rfl⟩
    refine ⟨?_,q,rfl⟩
    have hse:=Bx.search hu x (fun t=>((fs[t]?).map Bx.Fl.name).getD ByteArray.empty) hS
    rw [hn] at hse
    rw [hse]
    have hno:¬ (Bx.cut fs x < n∧((fs[Bx.cut fs x]?).map Bx.Fl.name).getD ByteArray.empty=x):=by
      rintro ⟨h1,h2⟩
      have h3:Bx.cut fs x < fs.length:=by omega
      rw [hS _ h3] at h2
      exact Bx.look_none_iff.1 hx _ (List.getElem_mem h3) h2
    simp only [decide_eq_false hno]
end Go.Proofs.YtkikhpppkpelfaaGreat
namespace Go.Proofs.YtkikhpppkpelfaaGreat
open Go.RowKit Go.Maps Go.WideMaps
theorem Bx.after_insert {B g:Nat} {fs:List Bx.Fl} {ns ns':List ByteArray} {mb K:Nat} {a0:Option Addr} {n cap:Nat} {w Y W w4:World} {a9:Option Addr} {n9 cap9:Nat} (h:Bx.BoxAt Y B g fs ns mb K a0 n cap) (hg9:W.grownBy w4 (Value.slice a0 n cap).ownBlock) (hW:Below Y.heap.size Y W)
    (hrow:w4.ownsRow B 9 1 (.slice a9 n9 cap9) n9 (Bi.ints ns')) (hY:Below B w Y) :
    Bx.BoxAt (w4.setCell ⟨g,1,none⟩ (.slice a9 n9 cap9)) B g fs ns' mb K a9 n9 cap9∧Below B w (w4.setCell ⟨g,1,none⟩ (.slice a9 n9 cap9)):=by
  have hgY:g < Y.heap.size:=(Array.getElem?_eq_some_iff.1 h.blk).1
  have hB0:B≤Y.heap.size:=Nat.le_trans h.le (by omega)
  have e1:w4.heap[g]? = some (.cells #[.map (some mb),.slice a0 n cap] 54 (0,0)):=by
    rw [hg9.block g (Nat.lt_of_lt_of_le hgY hW.size) (fun e=>by rcases h.rowne with h1 | h1;(rw [h1] at e;cases e);exact h1.2 e.symm),hW.block g hgY];exact h.blk
  have hset:w4.grownBy (w4.setCell ⟨g,1,none⟩ (.slice a9 n9 cap9)) (some g):=Bi.grown_set g [.slice a9 n9 cap9] 1 w4
  have hm:Bx.MapIs (w4.setCell ⟨g,1,none⟩ (.slice a9 n9 cap9)) mb K fs:=by
    obtain ⟨D,ho,hr⟩:=h.map.below hW
    have ho1:=ho.kept hg9 (fun e=>by rcases h.rowne with h1 | h1;(rw [h1] at e;cases e);exact h1.1 e.symm)
    exact ⟨D,ho1.kept hset (fun e=>h.ne (by injection e with e;exact e.symm)),hr⟩
  have hb4:Below B w w4:=Below.grown (hY.trans (hW.mono hB0)) hg9 (Nat.le_trans hB0 hW.size) (fun k hk=>by
    rcases h.row.2 with ⟨hv,_⟩ | ⟨g2,c2,cur,hv,hBg,_⟩
    · rw [hv] at hk;cases hk
    · rw [hv] at hk
      have:g2=k:=by simpa [Value.ownBlock] using hk
      omega)
  refine ⟨⟨?_,h.le,h.lem,hm,hrow.kept hset ?_⟩,hb4.setCell (p:=⟨g,1,none⟩) h.le _⟩
  · simp [World.setCell,Array.getElem?_modify,e1]
  · rcases hrow.2 with ⟨hv,_⟩ | ⟨g2,c2,cur,hv,_,hg2,_⟩
    · rw [hv];exact .inl rfl
    · rw [hv]
      refine .inr (fun e => ?_)
      have:g2=g:=by simpa [Value.ownBlock] using e
      rw [this,e1] at hg2
      injection hg2 with hg2;injection hg2 with _ h2;exact absurd h2 (by decide)
theorem Bx.cell_of {w w':World} {k o:Nat} (h:w'.heap[k]? = w.heap[k]?):w'.cell? ⟨k,o,none⟩=w.cell? ⟨k,o,none⟩:=by simp only [World.cell?,h]
theorem Bx.set_there (B g:Nat) (fs:List Bx.Fl) (hu:Bx.Up fs) (mb K:Nat) (a0:Option Addr) (n cap:Nat) (hn:fs.length=n) (a b:ByteArray) (w:World) (hB:B≤w.heap.size) (_hl:n≤1000) (hK:K≤1000) (ha:a.size≤1048576) (h:Bx.BoxAt w B g fs (fs.map Bx.Fl.name) mb K a0 n cap) (f0:Bx.Fl) (hf:Bx.look fs a=some f0) :
    Calls Tryz.prog 21 #[.pointer (some ⟨g,0,none⟩),.agg #[.string a,.string b]] w (Bx.SetPost B g fs mb K a b w):=by
  have hg:g < w.heap.size:=(Array.getElem?_eq_some_iff.1 h.blk).1
  have HBX:Hid (Bx.BoxAt w B g fs (fs.map Bx.Fl.name) mb K a0 n cap):=h
  have HS:Hid (∀ W,Below (w.heap.size+1) (w.alloc (.cells #[.string a,.string b] 36)) W→W.cell? ⟨g,0,none⟩=some (.map (some mb))∧W.cell? ⟨g,1,none⟩=some (.slice a0 n cap)∧W.cell? ⟨w.heap.size,0,none⟩=some (.string a)∧W.cell? ⟨w.heap.size,1,none⟩=some (.string b)∧(Instr.lookup 52 (.map (some mb)) (.string a) true).run Tryz.prog W = .ok (.tuple #[.agg #[.string f0.name,.string f0.text],.bool true]) W):=fun W hW=>by
    have hw:Below w.heap.size w W:=((Below.refl _ w).alloc (Nat.le_refl _) _).trans (hW.mono (by omega))
    have h2:=h.below hw
    have h3:=h2.look (x:=a) ha
    rw [hf] at h3
    exact ⟨by simp [World.cell?,h2.blk],by simp [World.cell?,h2.blk],(Rp.row2 hW).1,(Rp.row2 hW).2,h3⟩
  clear h
  have HU:Hid (Bx.Up fs):=hu
  have HNN:Hid (fs.length=n):=hn
  have HFF:Hid (Bx.look fs a=some f0):=hf
  clear hu hn hf
  have hX:Below w.heap.size w ((w.alloc (.cells #[.string a,.string b] 36)).alloc (.cells #[.string f0.name,.string f0.text] 36)).drew.drew:=(((Below.refl _ w).alloc (Nat.le_refl _) _).alloc (by simp) _).drew.drew
  have hX1:Below (w.heap.size+1) (w.alloc (.cells #[.string a,.string b] 36)) ((w.alloc (.cells #[.string a,.string b] 36)).alloc (.cells #[.string f0.name,.string f0.text] 36)).drew.drew:=((Below.refl _ _).alloc (by simp) _).drew.drew
  obtain ⟨W6,hrun,hm6,hg6⟩:=Bx.MapIs.store ((HBX.out.below hX).map) HU.out (by omega) a b ha
  have HB6:Hid (Bx.BoxAt W6 B g (Bx.put fs ⟨a,b⟩) ((Bx.put fs ⟨a,b⟩).map Bx.Fl.name) mb (K+1) a0 n cap):=by
    have e:=(HBX.out.below hX).store hm6 hg6
    rw [← Bx.put_same HU.out ⟨a,b⟩ (Bx.look_mem HFF.out)] at e;exact e
  have HN6:Hid ((Bx.put fs ⟨a,b⟩).length=n):=by have e:=congrArg List.length (Bx.put_same HU.out ⟨a,b⟩ (Bx.look_mem HFF.out));rw [List.length_map,List.length_map,HNN.out] at e;exact e
  have HG6:Hid (Below B w W6):=Below.grown (hX.mono hB) hg6 (Nat.le_trans hB hX.size) (fun k hk=>by injection hk with hk;rw [← hk];exact HBX.out.lem)
  have HS6:Hid (W6.cell? ⟨g,0,none⟩=some (.map (some mb))∧W6.cell? ⟨g,1,none⟩=some (.slice a0 n cap)∧W6.cell? ⟨w.heap.size,0,none⟩=some (.string a)∧W6.cell? ⟨w.heap.size,1,none⟩=some (.string b)):=by
    have hs:=HS.out _ hX1
    have hk:∀ k,k < w.heap.size+1→k≠mb→W6.heap[k]? = (((w.alloc (.cells #[.string a,.string b] 36)).alloc (.cells #[.string f0.name,.string f0.text] 36)).drew.drew).heap[k]?:=fun k hk hne=>hg6.block k (Nat.lt_of_lt_of_le hk (by simp)) (fun e=>hne (by injection e))
    have hmb:mb < w.heap.size:=by obtain ⟨D,ho,_⟩:=HBX.out.map;exact ho.lt
    exact ⟨by rw [← hs.1];exact Bx.cell_of (hk g (by omega) HBX.out.ne),by rw [← hs.2.1];exact Bx.cell_of (hk g (by omega) HBX.out.ne),by rw [← hs.2.2.1];exact Bx.cell_of (hk w.heap.size (by omega) (by omega)),by rw [← hs.2.2.2.1];exact Bx.cell_of (hk w.heap.size (by omega) (by omega))⟩
  clear hm6 hg6
  go_enter Tryz.func21,Tryz.ntmps21
  go_wp2_with fail
  refine wp_region_held_drew (S:=(fun W=>Below (w.heap.size+1) (w.alloc (.cells #[.string a,.string b] 36)) W∧W.cell? ⟨g,0,none⟩=some (.map (some mb))∧W.cell? ⟨g,1,none⟩=some (.slice a0 n cap)∧W.cell? ⟨w.heap.size,0,none⟩=some (.string a)∧W.cell? ⟨w.heap.size,1,none⟩=some (.string b)∧(Instr.lookup 52 (.map (some mb)) (.string a) true).run Tryz.prog W = .ok (.tuple #[.agg #[.string f0.name,.string f0.text],.bool true]) W)) (by kernel_rfl) (⟨(Below.refl _ _).drew,HS.out _ (Below.refl _ _).drew⟩) (fun hHeld => ?_)
  refine Tk 0 (.pointer (some ⟨g,0,none⟩)) rfl ?_
  try simp [Act.put]
  refine Tk 1 (.pointer (some ⟨g,0,none⟩)) rfl ?_
  try simp [Act.put]
  refine Tk 2 (.pointer (some ⟨g,0,none⟩)) rfl ?_
  try simp [Act.put]
  refine Tk 3 (.map (some mb)) rfl ?_
  try simp [Act.put]
  refine Tk 4 (.pointer (some ⟨w.heap.size,0,none⟩)) rfl ?_
  try simp [Act.put]
  refine Tk 5 (.string a) rfl ?_
  try simp [Act.put]
  refine Tk 6 (.tuple #[.agg #[.string f0.name,.string f0.text],.bool true]) rfl ?_
  try simp [Act.put]
  refine Tk 7 (.tuple #[.agg #[.string f0.name,.string f0.text],.bool true]) rfl ?_
  try simp [Act.put]
  refine Tk 8 (.agg #[.string f0.name,.string f0.text]) rfl ?_
  try simp [Act.put]
  refine Tk 9 (.bool true) rfl ?_
  try simp [Act.put]
  refine wpAnyH_ready (rs:=[10]) (by kernel_rfl) (by simp) ?_
  refine AllReadyH.cons rfl (fun KK hK => ?_) AllReadyH.nil
  go_simp
  refine hK.out _ _ (⟨((Below.refl _ _).alloc (by simp) _).drew,HS.out _ ((Below.refl _ _).alloc (by simp) _).drew⟩) (fun hHeld => ?_)
  clear hK
  try simp [Act.put]
  refine wpAnyH_ready (rs:=[11]) (by kernel_rfl) (by simp) ?_
  refine AllReadyH.cons rfl (fun KK hK => ?_) AllReadyH.nil
  go_simp
  refine hK.out _ _ (⟨((Below.refl _ _).alloc (by simp) _).drew,HS.out _ ((Below.refl _ _).alloc (by simp) _).drew⟩) (fun hHeld => ?_)
  clear hK
  try simp [Act.put]
  refine Tk 12 (.bool true) rfl ?_
  try simp [Act.put]
  refine wpAnyH_done (by kernel_rfl) ?_ _
  go_wp2_with fail
  refine wp_region_held_drew (S:=(fun W=>W.cell? ⟨g,0,none⟩=some (.map (some mb))∧W.cell? ⟨g,1,none⟩=some (.slice a0 n cap)∧W.cell? ⟨w.heap.size,0,none⟩=some (.string a)∧W.cell? ⟨w.heap.size,1,none⟩=some (.string b))) (by kernel_rfl) (⟨(HS.out _ hX1).1,(HS.out _ hX1).2.1,(HS.out _ hX1).2.2.1,(HS.out _ hX1).2.2.2.1⟩) (fun hHeld => ?_)
  refine Tk 0 (.pointer (some ⟨g,0,none⟩)) rfl ?_
  try simp [Act.put]
  refine Tk 1 (.pointer (some ⟨g,0,none⟩)) rfl ?_
  try simp [Act.put]
  refine Tk 2 (.pointer (some ⟨g,0,none⟩)) rfl ?_
  try simp [Act.put]
  refine Tk 3 (.map (some mb)) rfl ?_
  try simp [Act.put]
  refine Tk 4 (.pointer (some ⟨w.heap.size,0,none⟩)) rfl ?_
  try simp [Act.put]
  refine Tk 5 (.string a) rfl ?_
  try simp [Act.put]
  refine Tk 6 (.agg #[.string a,.string b]) rfl ?_
  try simp [Act.put]
  refine wpAnyH_ready (rs:=[7]) (by kernel_rfl) (by simp) ?_
  refine AllReadyH.cons rfl (fun KK hK => ?_) AllReadyH.nil
  go_simp
  refine hK.out _ _ (HS6.out) (fun hHeld => ?_)
  clear hK
  try simp [Act.put]
  refine wpAnyH_done (by kernel_rfl) ?_ _
  go_wp2
  go_end0
  exact ⟨rfl,⟨a0,n,cap,HN6.out,HB6.out⟩,HG6.out⟩
end Go.Proofs.YtkikhpppkpelfaaGreat
