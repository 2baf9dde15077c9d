import Derived.Test.YtbkhedpabfanoaaGreatDoorKCdN
import Derived.Test.YtbkhedpabfanoaaGreatDoorKCdT
import Derived.Test.YtbkhedpabfanoaaGreatDoorCfS
namespace Go.Proofs.YtbkhedpabfanoaaGreatDoor
open Go.RowKit

theorem Cd.wp_append_at {P:Program} {w:World} {ops:Array Oper} {rest:List Oper} {o:Oper} {a:Act} {Q:Exit→Act→World→Prop} (hgd:o.guard=none) (s x:Operand) (t:TypeId)
    (ho:o.op = .call { callee:=.builtin .append,args := #[s,x],argTypes := #[t,t] }) (base:Nat) (e:TypeId) (i:TypeInfo) (z:Value) (ht:P.underlying t=some (.slice e)) (hi:P.info? e=some i) (hz:i.zero=some z) (hsize:i.size=1) (hby:i.bytes=8) (hzs:z.cells.size=1)
    (v:Value) (n:Nat) (xs:List Int) (hs:a.eval s=v) (hown:w.ownsRow base e 1 v n (Cd.ints xs)) (C:Nat) (src:Value) (hx:a.eval x=src) (y:Int) (hsrc:Cd.IntsAt C w src [y]) (hsmall:n+1≤1048576) (hbase:base≤w.heap.size)
    (h:∀ v' w',w'.ownsRow base e 1 v' (n+1) (Cd.ints (xs++[y]))→w.grownBy w' v.ownBlock→(v'.ownBlock=v.ownBlock∨v'.ownBlock=some w.heap.size)→wpList P ops Q rest (a.put o.dst v') w') :
    wpList P ops Q (o::rest) a w:=by
  refine wpList_plain hgd fun K hK => ?_
  obtain ⟨ao,c,rfl,hc⟩:=hsrc
  obtain ⟨g,off,rfl,_,hcell⟩:=hc 0 (by simp)
  obtain ⟨v',w',hr,h2,h3,_,h5⟩:=run_append_own_at (P:=P) (w:=w) base t o.type e i z 1 8 ht hi hz hsize hby hzs (by decide) v n (Cd.ints xs) hown ⟨g,off,none⟩ [y].length c (Cd.ints [y]) (by simp [Cd.ints]) (fun j u hu=>by
      have hj:j=0:=by have:=List.getElem?_eq_some_iff.1 hu;obtain ⟨h,_⟩:=this;simpa [Cd.ints] using h
      subst hj
      have hu2:u = .int .i64 y:=by simpa [Cd.ints] using hu.symm
      rw [hu2];simpa [Addr.add] using hcell) Cd.ints_one (by unfold maxLen;simp only [List.length_cons,List.length_nil];omega) (by simp only [List.length_cons,List.length_nil];omega) hbase
  rw [← Cd.ints_app] at h2
  unfold Oper.wp execOp
  simp only [ho,resolve,invoke,builtin,Sem.run_bind,Sem.run_pure,Result.andThen_ok,List.map_toArray,List.map_cons,List.map_nil,hs,hx,hr]
  exact hK _ _ (h v' w' h2 h3 h5)
def Cd.InsertPost (B:Nat) (l':List Int) (row:Option Nat) (w:World) (e:Ending) (w':World):Prop := ∃ a' cap',e = .returned (.slice a' l'.length cap')∧w'.ownsRow B 3 1 (.slice a' l'.length cap') l'.length (Cd.ints l')∧w.grownBy w' row∧((Value.slice a' l'.length cap').ownBlock=row∨(Value.slice a' l'.length cap').ownBlock=some w.heap.size)
set_option maxRecDepth 100000 in
set_option maxHeartbeats 2000000 in
theorem Cd.insert_end (B:Nat) (l:List Int) (n:Nat) (hn:l.length=n) (x:Int) (a:Option Addr) (cap vb:Nat) (w:World) (hl:n≤1000000) (hB:B≤w.heap.size) (hown:w.ownsRow B 3 1 (.slice a n cap) n (Cd.ints l)) (hsrc:Cd.IntsAt w.heap.size w (.slice (some ⟨vb,0,none⟩) 1 1) [x]) :
    Calls Tryz.prog 109 #[.slice a n cap,.int .i64 (n:Int),.slice (some ⟨vb,0,none⟩) 1 1] w (Cd.InsertPost B (l++[x]) (Value.slice a n cap).ownBlock w):=by
  have hnc:n≤cap:=by
    rcases hown.2 with ⟨h,h0⟩ | ⟨g,c2,cur,h,_,_,h3,_⟩
    · omega
    · injection h with _ _ e;omega
  have HO:Hid (w.ownsRow B 3 1 (.slice a n cap) n (Cd.ints l)):=hown
  have HSR:Hid (Cd.IntsAt w.heap.size w (.slice (some ⟨vb,0,none⟩) 1 1) [x]):=hsrc
  have HLN:Hid ((l++[x]).length=n+1):=by rw [Hid,List.length_append,hn];rfl
  clear hown hsrc hn
  obtain ⟨i0,hi0,hz0,hz1,hz2⟩:=Cd.int_info
  have hncI:(n:Int)≤(cap:Int):=by omega
  obtain ⟨sa,hsa⟩:∃ sa,(if cap=n then a else a.map (fun p=>p.add n))=sa:=⟨_,rfl⟩
  go_enter Tryz.func109,Tryz.ntmps109
  go_wp2_with (first | (at_builtin;refine Cd.wp_append_at rfl _ _ 34 rfl B 3 i0 (.int .i64 0) Tryz.underlying34 hi0 hz0 hz1 hz2 rfl (.slice a n cap) n l rfl HO.out w.heap.size (.slice (some ⟨vb,0,none⟩) 1 1) rfl x HSR.out (by omega) hB ?_;intro v1 w9 hown9 hg9 hfr9;obtain ⟨a1,cap1,hv1⟩:=Cd.rowLen hown9;subst hv1))
  go_ret
  refine ⟨a1,cap1, ?_, ?_,hg9, ?_⟩
  · rw [HLN.out];rfl
  · rw [HLN.out];exact hown9
  · rw [HLN.out];exact hfr9
end Go.Proofs.YtbkhedpabfanoaaGreatDoor
namespace Go.Proofs.YtbkhedpabfanoaaGreatDoor
open Go.RowKit

theorem Cd.cells_set (g:Nat):∀ (vs:List Value) (o:Nat) (w:World) (cur:Array Value) (e:TypeId) (fr:Nat × Nat),w.heap[g]? = some (.cells cur e fr)→∃ cur',(w.setCells g o vs).heap[g]? = some (.cells cur' e fr)∧cur'.size=cur.size∧∀ j,cur'[j]? = if o≤j∧j < o+vs.length∧j < cur.size then vs[j - o]? else cur[j]?
  | [],o,w,cur,e,fr,h=>⟨cur,h,rfl,fun j=>by rw [if_neg];simp;omega⟩
  | v::r,o,w,cur,e,fr,h=>by
    have h1:(w.setCell ⟨g,o,none⟩ v).heap[g]? = some (.cells (cur.setIfInBounds o v) e fr):=by
      simp [World.setCell,Array.getElem?_modify,h]
    obtain ⟨cur',h2,h3,h4⟩:=Cd.cells_set g r (o+1) _ _ e fr h1
    refine ⟨cur',h2,by rw [h3];simp,fun j => ?_⟩
    rw [h4 j]
    simp only [Array.size_setIfInBounds,List.length_cons]
    by_cases hj:o+1≤j∧j < o+1+r.length∧j < cur.size
    · rw [if_pos hj,if_pos (by omega),show j - o=(j - (o+1))+1 by omega,List.getElem?_cons_succ]
    · rw [if_neg hj,Array.getElem?_setIfInBounds]
      by_cases e1:o=j
      · subst e1
        rw [if_pos rfl]
        by_cases hs:o < cur.size
        · rw [if_pos hs,if_pos (by omega)];simp
        · rw [if_neg hs,if_neg (by omega),Array.getElem?_eq_none (by omega)]
      · rw [if_neg e1,if_neg (by omega)]
theorem Cd.grown_set (g:Nat):∀ (vs:List Value) (o:Nat) (w:World),w.grownBy (w.setCells g o vs) (some g)
  | [],_,_=>⟨rfl,rfl,rfl,Nat.le_refl _,fun _ _ _=>rfl⟩
  | v::r,o,w=>by
    have h:=Cd.grown_set g r (o+1) (w.setCell ⟨g,o,none⟩ v)
    have hs:(w.setCell ⟨g,o,none⟩ v).heap.size=w.heap.size:=World.size_setCell ..
    refine ⟨h.os,h.tape,h.output,by rw [← hs];exact h.size,fun k hk hne=>(h.block k (by rw [hs];exact hk) hne).trans ?_⟩
    have hkg:¬ g=k:=fun e=>hne (by rw [e])
    simp [World.setCell,Array.getElem?_modify,hkg]
theorem Cd.ints_get (l:List Int) (j:Nat):(Cd.ints l)[j]? = (l[j]?).map (fun z=>Value.int .i64 z):=by
  simp [Cd.ints]
theorem Cd.ins_list (l:List Int) (x:Int) (i:Nat) (hi:i≤l.length) (j:Nat):(l.take i++[x]++l.drop i)[j]? = if j < i then l[j]? else if j=i then some x else l[j - 1]?:=by
  by_cases h1:j < i
  · rw [if_pos h1,List.append_assoc,List.getElem?_append_left (by rw [List.length_take];omega),List.getElem?_take,if_pos h1]
  · rw [if_neg h1,List.append_assoc,List.getElem?_append_right (by rw [List.length_take];omega),List.length_take,Nat.min_eq_left hi]
    by_cases h2:j=i
    · subst h2;rw [if_pos rfl,Nat.sub_self];rfl
    · rw [if_neg h2,show j - i=(j - i - 1)+1 by omega]
      show (l.drop i)[j - i - 1]? = _
      rw [List.getElem?_drop];congr 1;omega
theorem Cd.insert_shift (B:Nat) (l:List Int) (n i:Nat) (hn:l.length=n) (hi:i < n) (x:Int) (a:Option Addr) (cap vb:Nat) (w:World) (hl:n≤1000000) (hroom:n+1≤cap) (hown:w.ownsRow B 3 1 (.slice a n cap) n (Cd.ints l)) (hv:w.heap[vb]? = some (.cells #[.int .i64 x] 3 (0,0))) (hne:(Value.slice a n cap).ownBlock≠some vb) :
    Calls Tryz.prog 109 #[.slice a n cap,.int .i64 (i:Int),.slice (some ⟨vb,0,none⟩) 1 1] w (Cd.InsertPost B (l.take i++[x]++l.drop i) (Value.slice a n cap).ownBlock w):=by
  obtain ⟨hx,hr⟩:=hown
  rcases hr with ⟨h,h0⟩ | ⟨g,c2,cur,h,hBg,hg,hnc,hmx,hsz,htk⟩
  · omega
  · injection h with e1 e2 e3
    subst e1 e3
    have hvg:vb≠g:=fun e=>hne (by rw [e];rfl)
    rw [Nat.mul_one] at hsz htk
    have hcell:∀ j,j < cap→w.cell? ⟨g,0+j,none⟩=cur[j]?:=fun j _=>by rw [Nat.zero_add];exact Lib.cell_of_heap hg j
    have hcur:∀ j,j < n→cur[j]? = (Cd.ints l)[j]?:=fun j hj=>by
      rw [← htk,List.getElem?_take,if_pos hj,Array.getElem?_toList]
    have hsome:∀ j,j < cap→(cur[j]?).isSome=true:=fun j hj=>by rw [Array.getElem?_eq_getElem (by omega)];rfl
    have hlen:(l.take i++[x]++l.drop i).length=n+1:=by simp;omega
    have hcall:=Any2.slices_Insert_int_shift Tryz.laysIns g 0 n cap i vb 0 1 1 (Cd.ints l) [.int .i64 x] w hi (by omega) hroom (by have:=hmx;unfold maxLen at this;omega) hvg (by simp [Cd.ints,hn]) rfl
      (fun j v hj=>by
        have hjn:j < n:=by
          have:=(List.getElem?_eq_some_iff.1 hj).1
          simpa [Cd.ints,hn] using this
        rw [hcell j (by omega),hcur j hjn];exact hj)
      (fun j hj=>by rw [hcell j (by omega)];exact hsome j (by omega))
      (fun j hj=>by simp [World.frozen?,hg])
      (fun j v hj=>by
        have hj0:j=0:=by have:=(List.getElem?_eq_some_iff.1 hj).1;simpa using this
        subst hj0
        rw [Lib.cell_of_heap hv];simpa using hj)
      Cd.ints_one (fun v hv=>by simp at hv;rw [hv];rfl)
      3 3 1 cap (by simp [World.shape?,hv]) (by simp [World.shape?,hg,hsz]) (by omega) (by simp [World.frozen?,hv]) (by simp [World.frozen?,hv])
    refine hcall.mono ?_
    rintro e w' ⟨rfl,rfl⟩
    obtain ⟨c1,k1,k2,k3⟩:=Cd.cells_set g ((Cd.ints l).drop i) (0+(i+1)) w.drew cur 3 (0,0) hg
    obtain ⟨c2,m1,m2,m3⟩:=Cd.cells_set g [.int .i64 x] (0+i) _ c1 3 (0,0) k1
    refine ⟨some ⟨g,0,none⟩,cap,by rw [hlen], ?_, ?_,.inl rfl⟩
    · rw [hlen]
      refine ⟨by simp [Cd.ints];omega,.inr ⟨g,cap,c2,rfl,hBg,m1,hroom,hmx,by rw [m2,k2,hsz,Nat.mul_one], ?_⟩⟩
      rw [Nat.mul_one]
      apply List.ext_getElem?
      intro j
      rw [List.getElem?_take,Cd.ints_get,Cd.ins_list l x i (by omega),Array.getElem?_toList,m3 j,k3 j]
      simp only [List.length_singleton,List.length_drop,Nat.zero_add,k2,hsz]
      have hil:(Cd.ints l).length=n:=by simp [Cd.ints,hn]
      by_cases hjn:j < n+1
      · rw [if_pos hjn]
        by_cases h1:j < i
        · rw [if_neg (by omega),if_neg (by omega),if_pos h1,hcur j (by omega),Cd.ints_get]
        · by_cases h2:j=i
          · subst h2
            rw [if_pos (by omega),if_neg h1,if_pos rfl,Nat.sub_self];rfl
          · rw [if_neg (by omega),if_pos (by rw [hil];omega),if_neg h1,if_neg h2,List.getElem?_drop,Cd.ints_get]
            congr 2;omega
      · rw [if_neg hjn,if_neg (by omega),if_neg (by omega),List.getElem?_eq_none (by omega)];rfl
    · have h1:=Cd.grown_set g ((Cd.ints l).drop i) (0+(i+1)) w.drew
      have h2:=Cd.grown_set g [.int .i64 x] (0+i) (w.drew.setCells g (0+(i+1)) ((Cd.ints l).drop i))
      exact ⟨h2.os.trans h1.os,h2.tape.trans h1.tape,h2.output.trans h1.output,Nat.le_trans h1.size h2.size,fun k hk hne2=>(h2.block k (Nat.lt_of_lt_of_le hk h1.size) hne2).trans (h1.block k hk hne2)⟩
end Go.Proofs.YtbkhedpabfanoaaGreatDoor
namespace Go.Proofs.YtbkhedpabfanoaaGreatDoor
open Go.RowKit

theorem Cd.insert_grow (B:Nat) (l:List Int) (n i:Nat) (hn:l.length=n) (hi:i < n) (x:Int) (a:Option Addr) (cap vb:Nat) (w:World) (hl:n≤1000000) (hB:B≤w.heap.size) (hroom:cap < n+1) (hown:w.ownsRow B 3 1 (.slice a n cap) n (Cd.ints l)) (hv:w.heap[vb]? = some (.cells #[.int .i64 x] 3 (0,0))) :
    Calls Tryz.prog 109 #[.slice a n cap,.int .i64 (i:Int),.slice (some ⟨vb,0,none⟩) 1 1] w (Cd.InsertPost B (l.take i++[x]++l.drop i) (Value.slice a n cap).ownBlock w):=by
  obtain ⟨hx,hr⟩:=hown
  rcases hr with ⟨h,h0⟩ | ⟨g,c2,cur,h,hBg,hg,hnc,hmx,hsz,htk⟩
  · omega
  · injection h with e1 e2 e3
    subst e1 e3
    rw [Nat.mul_one] at hsz htk
    have hcur:∀ j,j < n→cur[j]? = (Cd.ints l)[j]?:=fun j hj=>by
      rw [← htk,List.getElem?_take,if_pos hj,Array.getElem?_toList]
    have hlen:(l.take i++[x]++l.drop i).length=n+1:=by simp;omega
    have hil:(Cd.ints l).length=n:=by simp [Cd.ints,hn]
    have hcall:=Any2.slices_Insert_int_grow Tryz.laysIns g 0 n cap i vb 0 1 1 (Cd.ints l) [.int .i64 x] w hi (by omega) hnc hroom (by omega) hil rfl
      (fun j v hj=>by
        have hjn:j < n:=by
          have:=(List.getElem?_eq_some_iff.1 hj).1
          omega
        rw [Nat.zero_add,Lib.cell_of_heap hg,hcur j hjn];exact hj)
      (fun j v hj=>by
        have hj0:j=0:=by have:=(List.getElem?_eq_some_iff.1 hj).1;simpa using this
        subst hj0
        rw [Lib.cell_of_heap hv];simpa using hj)
      Cd.ints_one (fun v hv=>by simp at hv;rw [hv];rfl)
    refine hcall.mono ?_
    rintro e w' ⟨rfl,rfl⟩
    obtain ⟨gc,hgc⟩:∃ gc,grownCap w (n+1) cap 3=gc:=⟨_,rfl⟩
    have hge:n+1≤gc:=by rw [← hgc];exact grownCap_ge _ _ _ _
    have hle:gc≤maxLen:=by rw [← hgc];exact grownCap_le_maxLen _ _ _ _ (by unfold maxLen;omega)
    change Cd.InsertPost B _ _ w (.returned (.slice (some ⟨w.heap.size,0,none⟩) (n+1) (grownCap w (n+1) cap 3))) ((((w.alloc (.cells (((Cd.ints l).take i).toArray++Builtin.zeroCells (Value.int .i64 0).cells (n+1 - i)++Builtin.zeroCells (Value.int .i64 0).cells (grownCap w (n+1) cap 3 - (n+1))) 3)).drew.setCells w.heap.size i [.int .i64 x]).drew).setCells w.heap.size (i+1) ((Cd.ints l).drop i))
    rw [hgc]
    obtain ⟨c0,hc0⟩:∃ c0,((Cd.ints l).take i).toArray++Builtin.zeroCells (Value.int .i64 0).cells (n+1 - i)++Builtin.zeroCells (Value.int .i64 0).cells (gc - (n+1))=c0:=⟨_,rfl⟩
    have hz1:(Value.int .i64 0).cells.size=1:=rfl
    have hs0:c0.size=gc:=by
      rw [← hc0,Array.size_append,Array.size_append,size_zeroCells,size_zeroCells,hz1]
      simp [hil];omega
    have hpre:∀ j,j < i→c0[j]? = (Cd.ints l)[j]?:=fun j hj=>by
      rw [← hc0,Array.append_assoc,Array.getElem?_append_left (by simp [hil];omega)]
      simp [hj]
    rw [hc0]
    have hW:(w.alloc (.cells c0 3)).drew.heap[w.heap.size]? = some (.cells c0 3 (0,0)):=Cd.new_at w _
    obtain ⟨c1,k1,k2,k3⟩:=Cd.cells_set w.heap.size [.int .i64 x] i (w.alloc (.cells c0 3)).drew c0 3 (0,0) hW
    obtain ⟨c2,m1,m2,m3⟩:=Cd.cells_set w.heap.size ((Cd.ints l).drop i) (i+1) (((w.alloc (.cells c0 3)).drew.setCells w.heap.size i [.int .i64 x]).drew) c1 3 (0,0) k1
    refine ⟨some ⟨w.heap.size,0,none⟩,gc,by rw [hlen], ?_, ?_,.inr rfl⟩
    · rw [hlen]
      refine ⟨by simp [Cd.ints];omega,.inr ⟨w.heap.size,gc,c2,rfl,hB,m1,hge,hle,by rw [m2,k2,hs0,Nat.mul_one], ?_⟩⟩
      rw [Nat.mul_one]
      apply List.ext_getElem?
      intro j
      rw [List.getElem?_take,Cd.ints_get,Cd.ins_list l x i (by omega),Array.getElem?_toList,m3 j,k3 j]
      simp only [List.length_singleton,List.length_drop,k2,hs0]
      by_cases hjn:j < n+1
      · rw [if_pos hjn]
        by_cases h1:j < i
        · rw [if_neg (by omega),if_neg (by omega),if_pos h1,hpre j h1,Cd.ints_get]
        · by_cases h2:j=i
          · subst h2
            rw [if_neg (by omega),if_pos (by omega),if_neg h1,if_pos rfl,Nat.sub_self];rfl
          · rw [if_pos (by rw [hil];omega),if_neg h1,if_neg h2,List.getElem?_drop,Cd.ints_get]
            congr 2;omega
      · rw [if_neg hjn,if_neg (by omega),if_neg (by omega),List.getElem?_eq_none (by omega)];rfl
    · have h1:=Cd.grown_set w.heap.size [.int .i64 x] i (w.alloc (.cells c0 3)).drew
      have h2:=Cd.grown_set w.heap.size ((Cd.ints l).drop i) (i+1) (((w.alloc (.cells c0 3)).drew.setCells w.heap.size i [.int .i64 x]).drew)
      have hs:w.heap.size≤(w.alloc (.cells c0 3)).drew.heap.size:=by show _≤(w.alloc (.cells c0 3)).heap.size;rw [World.size_alloc];omega
      exact ⟨h2.os.trans h1.os,h2.tape.trans h1.tape,h2.output.trans h1.output,Nat.le_trans hs (Nat.le_trans h1.size h2.size),fun k hk _=>by
        have hkne:some k≠some w.heap.size:=fun e=>by injection e with e;omega
        exact ((h2.block k (Nat.lt_of_lt_of_le (Nat.lt_of_lt_of_le hk hs) h1.size) hkne).trans (h1.block k (Nat.lt_of_lt_of_le hk hs) hkne)).trans ((Cd.b1 w _).block k hk)⟩
theorem Cd.insert_any (B:Nat) (l:List Int) (n i:Nat) (hn:l.length=n) (hi:i≤n) (x:Int) (a:Option Addr) (cap vb:Nat) (w:World) (hl:n≤1000000) (hB:B≤w.heap.size) (hown:w.ownsRow B 3 1 (.slice a n cap) n (Cd.ints l)) (hv:w.heap[vb]? = some (.cells #[.int .i64 x] 3 (0,0))) (hne:(Value.slice a n cap).ownBlock≠some vb) :
    Calls Tryz.prog 109 #[.slice a n cap,.int .i64 (i:Int),.slice (some ⟨vb,0,none⟩) 1 1] w (Cd.InsertPost B (l.take i++[x]++l.drop i) (Value.slice a n cap).ownBlock w):=by
  by_cases hin:i=n
  · subst hin
    have e:l.take i++[x]++l.drop i=l++[x]:=by rw [← hn,List.take_length,List.drop_length];simp
    rw [e]
    refine Cd.insert_end B l i hn x a cap vb w hl hB hown ⟨_,_,rfl,fun j hj=>⟨vb,0,rfl,(Array.getElem?_eq_some_iff.1 hv).1, ?_⟩⟩
    have hj0:j=0:=by simpa using hj
    subst hj0
    rw [Lib.cell_of_heap hv];rfl
  · by_cases hroom:n+1≤cap
    · exact Cd.insert_shift B l n i hn (by omega) x a cap vb w hl hroom hown hv hne
    · exact Cd.insert_grow B l n i hn (by omega) x a cap vb w hl hB (by omega) hown hv
end Go.Proofs.YtbkhedpabfanoaaGreatDoor
