import Derived.Test.YtlcckaffhnjneaaGreatDoorKTk
import Derived.Test.YtlcckaffhnjneaaGreatDoorKPcF
import Derived.Test.YtlcckaffhnjneaaGreatDoorKPaA
import Derived.Test.YtlcckaffhnjneaaGreatDoorKPaT
import Derived.Deep.RegionLaw
import Derived.Deep.RegionHeld3
set_option maxRecDepth 100000
set_option maxHeartbeats 2000000
namespace Go.Proofs.YtlcckaffhnjneaaGreatDoor
open Go.RowKit
variable {ts:List (Mill.Piece × Nat)} {g:Nat} {a:Option Addr} {c E i j:Nat} {w W W2:World}
theorem Tryz.infoBranchP : (Tryz.prog.info? 70).map (fun i=>(i.zero,i.size,i.bytes))=some (some .nilIface,1,16):=by kernel_rfl
def Pa.Kr (B:Nat) (W:World) (va:Option Addr) (vc:Nat) (l:List Mill.Tr):Prop :=
 ∃ us,W.ownsRow B 70 1 (.slice va l.length vc) l.length us∧Mill.Reps (fun b=>B≤b∧b < W.heap.size∧(Value.slice va l.length vc).ownBlock≠some b) W l us
theorem Pa.Kr.nil (B:Nat) (W:World):Pa.Kr B W none 0 []:=⟨[],⟨rfl,.inl ⟨rfl,rfl⟩⟩,by rw [Mill.Reps]⟩
theorem Pa.Kr.fr {B:Nat} {va:Option Addr} {vc:Nat} {l:List Mill.Tr} (h:Pa.Kr B W va vc l) (hF:Pa.Fr g W W2) (hB:g < B):Pa.Kr B W2 va vc l:=by
 obtain ⟨us,h1,h2⟩:=h
 exact ⟨us,hF.own h1 hB,Mill.Reps.below (fun b hb=>⟨hb.1,Nat.lt_of_lt_of_le hb.2.1 hF.size,hb.2.2⟩) (fun b hb=>hF.keep b hb.2.1 (by omega)) l us h2⟩
theorem Pa.Kr.mono {B C:Nat} {va:Option Addr} {vc:Nat} {l:List Mill.Tr} (h:Pa.Kr B W va vc l) (hC:C≤B):Pa.Kr C W va vc l:=by
 obtain ⟨us,h1,h2⟩:=h
 exact ⟨us,Pa.own_mono h1 hC,Mill.Reps.below (fun b hb=>⟨by omega,hb.2⟩) (fun b hb=>rfl) l us h2⟩
theorem Pa.Kr.set {B k o:Nat} {va:Option Addr} {vc:Nat} {l:List Mill.Tr} (h:Pa.Kr B W va vc l) (hk:k < B) (v:Value):Pa.Kr B (W.setCell ⟨k,o,none⟩ v) va vc l:=by
 obtain ⟨us,h1,h2⟩:=h
 exact ⟨us,ownsRow_setCell_below h1 (by simpa using hk) _,Mill.Reps.below (fun b hb=>⟨hb.1,by simpa [World.setCell] using hb.2.1,hb.2.2⟩) (fun b hb=>Below.heap_setCell _ _ _ _ (by simp only;omega)) l us h2⟩
theorem Pa.Kr.blk {B:Nat} {va:Option Addr} {vc:Nat} {l:List Mill.Tr} (h:Pa.Kr B W va vc l) {k:Nat} (hk:(Value.slice va l.length vc).ownBlock=some k):k < W.heap.size∧B≤k:=by
 obtain ⟨us,h1,_⟩:=h
 rcases h1.2 with ⟨he,_⟩ | ⟨b,cap,cur,he,hb,hg,_⟩
 ·rw [he] at hk;simp [Value.ownBlock] at hk
 ·rw [he] at hk;simp [Value.ownBlock] at hk;subst hk;exact ⟨(Array.getElem?_eq_some_iff.1 hg).1,hb⟩
theorem Pa.Kr.sl {B:Nat} {va:Option Addr} {vc:Nat} {l:List Mill.Tr} (h:Pa.Kr B W va vc l):∃ us,us.length=l.length∧Mill.Sl (fun b=>B≤b∧b < W.heap.size) W (.slice va l.length vc) us.length us∧Pa.Rbs B W l us:=by
 obtain ⟨us,h1,h2⟩:=h
 have hlen:=Mill.Reps.len l us h2
 refine ⟨us,hlen, ?_,Mill.Reps.below (fun b hb=>⟨hb.1,hb.2.1⟩) (fun b hb=>rfl) l us h2⟩
 rcases h1.2 with ⟨he,h0⟩ | ⟨b,cap,cur,he,hb,hg,hrest⟩
 ·injection he with e1 e2 e3
  refine ⟨va,vc,by rw [hlen],fun j u hj => ?_⟩
  have:us=[]:=List.eq_nil_of_length_eq_zero (by omega)
  rw [this] at hj;simp at hj
 ·injection he with e1 e2 e3
  refine ⟨va,vc,by rw [hlen],fun j u hj=>⟨b,e1,⟨hb,(Array.getElem?_eq_some_iff.1 hg).1⟩, ?_⟩⟩
  have hjl:=(List.getElem?_eq_some_iff.1 hj).1
  subst e1;subst e3
  have hc:=h1.cellAt j (by omega)
  rw [hc];exact hj
theorem Pa.rb_call {B:Nat} {va:Option Addr} {vc:Nat} {l:List Mill.Tr} (x:List UInt8) (h:Pa.Kr B W va vc l) (hl:l.length≤100000):Pa.Rb B W (Pa.br 7 0 0 x l) (.iface 168 (.agg #[.string (Mill.ba x),.slice va l.length vc])):=by
 obtain ⟨us,h1,h2,h3⟩:=h.sl
 exact Pa.rb_mk ⟨7,0,0,0,Mill.ba x,(l.length:Int)⟩ l us _ (by simp) (by simp) ⟨_,h2,rfl⟩ h3 (by omega)
theorem Pa.rb_built {B:Nat} {va:Option Addr} {vc:Nat} {l:List Mill.Tr} (o:Int) (h:Pa.Kr B W va vc l) (hl:l.length≤100000):Pa.Rb B W (Pa.br 8 o 0 [] l) (.iface 173 (.agg #[.int .i64 o,.slice va l.length vc])):=by
 obtain ⟨us,h1,h2,h3⟩:=h.sl
 exact Pa.rb_mk ⟨8,o,0,0,Mill.ba [],(l.length:Int)⟩ l us _ (by simp) (by simp) ⟨_,h2,rfl⟩ h3 (by omega)
theorem Pa.rb_block {B:Nat} {va:Option Addr} {vc:Nat} {l:List Mill.Tr} (h:Pa.Kr B W va vc l) (hl:l.length≤100000):Pa.Rb B W (Pa.br 21 0 0 [] l) (.iface 77 (.agg #[.slice va l.length vc])):=by
 obtain ⟨us,h1,h2,h3⟩:=h.sl
 exact Pa.rb_mk ⟨21,0,0,0,Mill.ba [],(l.length:Int)⟩ l us _ (by simp) (by simp) ⟨_,h2,rfl⟩ h3 (by omega)
theorem Pa.Kr.grown {B C:Nat} {va a':Option Addr} {vc c':Nat} {l:List Mill.Tr} {t:Mill.Tr} {ty:TypeId} {x:Value} {us:List Value} (hr:Mill.Reps (fun b=>B≤b∧b < W.heap.size∧(Value.slice va l.length vc).ownBlock≠some b) W l us) (hu:Pa.Rb C W t (.iface ty x)) (hC:B≤C) (hk:∀ k,(Value.slice va l.length vc).ownBlock=some k→k < C) (ho:W2.ownsRow B 70 1 (.slice a' (l++[t]).length c') (l++[t]).length (us++[.iface ty x])) (hg:W.grownBy W2 (Value.slice va l.length vc).ownBlock) (hb:(Value.slice a' (l++[t]).length c').ownBlock=(Value.slice va l.length vc).ownBlock∨(Value.slice a' (l++[t]).length c').ownBlock=some W.heap.size):Pa.Kr B W2 a' c' (l++[t]):=by
 refine ⟨_,ho,Mill.Reps.app _ _ _ _ ?_ ?_⟩
 ·refine Mill.Reps.below (fun b h=>⟨h.1,Nat.lt_of_lt_of_le h.2.1 hg.size, ?_⟩) (fun b h=>hg.block b h.2.1 (fun e=>h.2.2 e.symm)) l us hr
  rcases hb with hb | hb
  ·rw [hb];exact h.2.2
  ·rw [hb];intro e;injection e with e;omega
 ·rw [Mill.Reps]
  refine ⟨_,[],rfl, ?_,by rw [Mill.Reps]⟩
  refine Mill.Rep.below (fun b h=>⟨by omega,Nat.lt_of_lt_of_le h.2 hg.size, ?_⟩) (fun b h=>hg.block b h.2 (fun e=>by have:=hk b e.symm;omega)) t _ hu
  rcases hb with hb | hb
  ·rw [hb];intro e;have:=hk b e;omega
  ·rw [hb];intro e;injection e with e;omega
theorem Pa.run_push (T:TypeId) {B C vc:Nat} {va:Option Addr} {l:List Mill.Tr} {t:Mill.Tr} {ty:TypeId} {x:Value} (hK:Pa.Kr B W va vc l) (hu:Pa.Rb C W t (.iface ty x)) (hC:B≤C) (hk:∀ k,(Value.slice va l.length vc).ownBlock=some k→k < C) (hBW:B≤W.heap.size) (hl:l.length+1≤1000000) (hgB:g < B) (hgW:g < W.heap.size) :
  ∃ a' c' w',(Builtin.append_ #[71,71] T #[.slice va l.length vc,.slice (some ⟨W.heap.size,0,none⟩) 1 1]).run Tryz.prog (W.alloc (.cells #[.iface ty x] 70)) = .ok (.slice a' (l++[t]).length c') w'∧Pa.Kr B w' a' c' (l++[t])∧(∀ V,Pa.Fr g V W→V.heap.size≤B→Pa.Fr g V w')∧(∀ ts a c E i,Pa.P ts g a c E i W→Pa.P ts g a c E i w')∧(W.heap.size≤w'.heap.size∧∀ k,k < B→k < W.heap.size→w'.heap[k]? = W.heap[k]?):=by
 obtain ⟨us,h1,h2⟩:=hK
 obtain ⟨i0,hi0,hy0,hy1,hy2⟩:=info_parts Tryz.infoBranchP
 have hba:Below W.heap.size W (W.alloc (.cells #[.iface ty x] 70)):=(Below.refl _ _).alloc (Nat.le_refl _) _
 have h1':=Mill.own_below h1 hba
 have hsrc:Pa.Src (W.alloc (.cells #[.iface ty x] 70)) (some ⟨W.heap.size,0,none⟩) 1 [.iface ty x]:=fun _=>⟨_,rfl,fun j u hj=>by
  match j,hj with
  | 0,hj=>simp at hj;subst hj;exact Mill.cell_new W #[.iface ty x] 70 0 _ rfl⟩
 obtain ⟨v',w',hr,h3,h4,h5⟩:=Pa.run_append_at (P:=Tryz.prog) (w:=W.alloc (.cells #[.iface ty x] 70)) B 71 T 70 i0 .nilIface 1 16 Tryz.underlying71 hi0 hy0 hy1 hy2 rfl (by decide) _ _ _ h1' (some ⟨W.heap.size,0,none⟩) 1 1 [.iface ty x] rfl hsrc (by intro u hu;simp at hu;subst hu;rfl) (by unfold maxLen;omega) (by omega) (by simp only [World.size_alloc];omega)
 obtain ⟨a',c',hv⟩:=Pa.rowLen h3
 have hlen:(l++[t]).length=l.length+1:=by simp
 rw [hv] at h3 h5 hr
 have hkr:Pa.Kr B w' a' c' (l++[t]):=by
  refine Pa.Kr.grown (W:=W.alloc (.cells #[.iface ty x] 70)) (us:=us) (C:=C) ?_ ?_ hC hk (by rw [hlen];exact h3) h4 (by rw [hlen];exact h5)
  ·exact Mill.Reps.below (fun b hb=>⟨hb.1,Nat.lt_of_lt_of_le hb.2.1 hba.size,hb.2.2⟩) (fun b hb=>hba.block b hb.2.1) l us h2
  ·exact Mill.Rep.below (fun b hb=>⟨hb.1,Nat.lt_of_lt_of_le hb.2 hba.size⟩) (fun b hb=>hba.block b hb.2) t _ hu
 have hkeep:∀ k,k < B→k < W.heap.size→w'.heap[k]? = W.heap[k]?:=fun k hk1 hk2=>by
  rw [h4.block k (by simp only [World.size_alloc];omega) (fun e => ?_)]
  ·exact hba.block k hk2
  ·rcases h1.2 with ⟨he,_⟩ | ⟨b,cap,cur,he,hb,_⟩
   ·rw [he] at e;simp [Value.ownBlock] at e
   ·rw [he] at e;simp [Value.ownBlock] at e;omega
 exact ⟨a',c',w',by rw [hlen];exact hr,hkr,fun V hF hV=>⟨(h4.os.trans hba.os).trans hF.os,(h4.tape.trans hba.tape).trans hF.tape,(h4.output.trans hba.output).trans hF.output,Nat.le_trans hF.size (Nat.le_trans hba.size h4.size),fun k hk1 hk2=>(hkeep k (by omega) (Nat.lt_of_lt_of_le hk1 hF.size)).trans (hF.keep k hk1 hk2)⟩,fun ts a c E i hP=>⟨(hkeep g hgB hgW).trans hP.blk,hP.tks.keep fun k hk=>hkeep k (by omega) (by omega),hP.le,hP.len,hP.cap⟩,Nat.le_trans hba.size h4.size,hkeep⟩
theorem Pa.wp_push {ops:Array Oper} {rest:List Oper} {o:Oper} {A:Act} {Q:Exit→Act→World→Prop} (hgd:o.guard=none) (s' y:Operand)
  (ho:o.op = .call { callee:=.builtin .append,args := #[s',y],argTypes := #[71,71] }) {B C vc n:Nat} {va:Option Addr} {l:List Mill.Tr} {t:Mill.Tr} {ty:TypeId} {x:Value} (hK:Pa.Kr B W va vc l) (hs:A.eval s' = .slice va n vc) (hn:l.length=n) (hy:A.eval y = .slice (some ⟨W.heap.size,0,none⟩) 1 1) (hu:Pa.Rb C W t (.iface ty x)) (hC:B≤C) (hk:∀ k,(Value.slice va l.length vc).ownBlock=some k→k < C) (hBW:B≤W.heap.size) (hl:n+1≤1000000) (hgB:g < B) (hgW:g < W.heap.size)
  (h:∀ a' c' w',Pa.Kr B w' a' c' (l++[t])→(∀ V,Pa.Fr g V W→V.heap.size≤B→Pa.Fr g V w')→(∀ ts a c E i,Pa.P ts g a c E i W→Pa.P ts g a c E i w')→(W.heap.size≤w'.heap.size∧∀ k,k < B→k < W.heap.size→w'.heap[k]? = W.heap[k]?)→wpList Tryz.prog ops Q rest (A.put o.dst (.slice a' (l++[t]).length c')) w') :
  wpList Tryz.prog ops Q (o::rest) A (W.alloc (.cells #[.iface ty x] 70)):=by
 subst hn
 obtain ⟨a',c',w',hr,h2,h3,h4,h5⟩:=Pa.run_push (g:=g) o.type hK hu hC hk hBW hl hgB hgW
 refine wpList_plain hgd fun K hK2 => ?_
 unfold Oper.wp execOp
 simp only [ho,resolve,invoke,builtin,Sem.run_bind,Sem.run_pure,Result.andThen_ok,List.map_toArray,List.map_cons,List.map_nil,hs,hy,hr]
 exact hK2 _ _ (h a' c' w' h2 h3 h4 h5)
theorem Pa.step_push {ops:Array Oper} {o:Oper} {A:Act} {K:Act→World→Prop} {Q:Exit→Act→World→Prop} {EE:Prop} (hg:o.guard=none) (s' y:Operand)
  (hop:o.op=Op.call { callee:=Callee.builtin Builtin.append,args := #[s',y],argTypes := #[71,71] }) {B C vc:Nat} {va:Option Addr} {l:List Mill.Tr} {t:Mill.Tr} {ty:TypeId} {x:Value} (hK:Pa.Kr B W va vc l) (hu:Pa.Rb C W t (.iface ty x)) (hC:B≤C) (hk:∀ k,(Value.slice va l.length vc).ownBlock=some k→k < C) (hBW:B≤W.heap.size) (hl:l.length+1≤1000000) (hgB:g < B) (hgW:g < W.heap.size) (hs:A.eval s' = .slice va l.length vc) (hy:A.eval y = .slice (some ⟨W.heap.size,0,none⟩) 1 1)
  (hK2:∀ a' c' w',Pa.Kr B w' a' c' (l++[t])→(∀ V,Pa.Fr g V W→V.heap.size≤B→Pa.Fr g V w')→(∀ ts a c E i,Pa.P ts g a c E i W→Pa.P ts g a c E i w')→(W.heap.size≤w'.heap.size∧∀ k,k < B→k < W.heap.size→w'.heap[k]? = W.heap[k]?)→K (A.put o.dst (.slice a' (l++[t]).length c')) w') :
  if Region.wanted o (yielded ops A.tmps)=true then Oper.wp Tryz.prog o A (W.alloc (.cells #[.iface ty x] 70)) K Q else EE:=by
 have hw:Region.wanted o (yielded ops A.tmps)=true:=by simp [Region.wanted,hg]
 rw [if_pos hw]
 obtain ⟨a',c',w',hr,h2,h3,h4,h5⟩:=Pa.run_push (g:=g) o.type hK hu hC hk hBW hl hgB hgW
 unfold Oper.wp execOp
 simp only [hop,resolve,invoke,builtin,Sem.run_bind,Sem.run_pure,Result.andThen_ok,List.map_toArray,List.map_cons,List.map_nil,hs,hy,hr]
 exact hK2 a' c' w' h2 h3 h4 h5
variable {ts:List (Mill.Piece × Nat)} {g:Nat} {a:Option Addr} {c E i j:Nat} {w W W2:World}
def Pa.AnsL (ts:List (Mill.Piece × Nat)) (g:Nat) (a:Option Addr) (c E:Nat) (r:Except Nat (List Mill.Tr × Nat)) (w:World) (e:Ending) (w':World):Prop:=match r with
 | .ok p => ∃ va vc,e = .returned (.slice va p.1.length vc)∧Pa.Kr w.heap.size w' va vc p.1∧Pa.Pt ts g a c E p.2 w w'
 | .error k=>e=Pa.pan ts E k∧Pa.Fr g w w'
theorem Pa.brest_any (n:Nat) (ih:∀ m,m≤n→Pa.RankIs ts g a c E m) (K:Nat) (hK:K≤3) (r:Except Nat (List Mill.Tr × Nat)) (hr:Pa.brest ts (n+1) K i=some r) (hB:Pa.Tb g w) (hP:Pa.P ts g a c E i w) :
  Calls Tryz.prog 149 #[.pointer (some ⟨g,0,none⟩),.int .i64 (K:Int)] w (Pa.AnsL ts g a c E r w):=by
 have hT:Pa.Pt ts g a c E i w w:=⟨hP,Pa.Fr.refl _ _⟩
 have hgw:=hP.lt
 have mkA:True:=trivial
 have mkB:True:=trivial
 rw [Pa.brest] at hr
 cases h1:Pa.st ts 5 [40] i with
 | false =>
  rw [Pa.nd_no h1,Pa.bd_err,Option.some.injEq] at hr
  subst hr
  go_enter Tryz.func149,Tryz.ntmps149
  go_wp2_with ((have _t:=mkA;go_at_call 67;refine (Pa.needsM_no [40] h1 hT.1).mono ?_;rintro e V ⟨rfl,hT'⟩;have hF:=(hT.to hT').2;clear mkA;unfold Pa.pan))
  exact ⟨rfl,rfl,hF⟩
 | true =>
  rw [Pa.nd_yes h1,Pa.bd_ok] at hr
  simp only at hr
  cases h2:Pa.brestL ts n K 0 [] (i+1) with
  | none=>rw [h2,Pa.bd_none] at hr;simp at hr
  | some q =>
   rw [h2] at hr
   have HQ:Hid (Pa.brestL ts n K 0 [] (i+1)=some q):=h2
   have HR:Hid (Pa.bd (some q) (fun us l=>Pa.bd (Pa.nd ts 5 [41] l) fun _ m=>some (.ok (us,m)))=some r):=hr
   clear h2 hr
   go_enter Tryz.func149,Tryz.ntmps149
   go_wp2_with ((have _t:=mkA;go_at_call 67;refine (Pa.needsM_ok [40] h1 hT.1).mono ?_;rintro e V ⟨rfl,hT'⟩;replace hT:=hT.to hT';clear hT' mkA))
   go_loopw [5,10,6] (fun ov kv _ wr => ∃ (m k:Nat) (us:List Mill.Tr) (p:Nat) (oa:Option Addr) (oc:Nat),m≤n∧k≤K∧ov = .slice oa us.length oc∧kv = .int .i64 (k:Int)∧Pa.Kr w.heap.size wr oa oc us∧Pa.Pt ts g a c E p w wr∧Pa.brestL ts m K k us p=some q∧us.length=k) (fun _ kv _ _=>K+1 - (intOf kv).toNat)
   case atStart=>exact ⟨n,0,[],_,_,_,Nat.le_refl _,by omega,rfl,rfl,Pa.Kr.nil _ _,hT,HQ.out,rfl⟩
   case round =>
    clear hT
    obtain ⟨m,k,us,p,oa,oc,hm,hkK,rfl,rfl,hKr,hT,hL,hul⟩:=hrel
    have HUL:Hid (us.length=k):=hul
    have hr:=HR.out
    clear HR
    obtain ⟨m,rfl⟩:∃ m',m=m'+1:=by
     cases m with
     | zero=>simp [Pa.brestL] at hL
     | succ m=>exact ⟨m,rfl⟩
    rw [Pa.brestL] at hL
    have hub:us.length+1≤1000000:=by omega
    clear hul
    by_cases hgo:k < K
    ·rw [if_pos hgo] at hL
     have hgoI:(k:Int) < (K:Int):=by omega
     have hwk:wrap64 ((k:Int)+1)=(k:Int)+1:=by rw [wrap64];omega
     by_cases hk0:0 < k
     ·rw [if_pos hk0] at hL
      have hk0':(0:Int) < (k:Int):=by omega
      cases h3:Pa.st ts 5 [44] p with
      | false =>
       rw [Pa.nd_no h3,Pa.bd_err,Option.some.injEq] at hL
       subst hL
       rw [Pa.bd_err,Option.some.injEq] at hr
       subst hr
       go_wp2_with ((have _t:=mkB;go_at_call 67;refine (Pa.needsM_no [44] h3 hT.1).mono ?_;rintro e V ⟨rfl,hT'⟩;have hF:=(hT.to hT').2;clear mkB;unfold Pa.pan))
       exact ⟨rfl,rfl,hF⟩
      | true =>
       rw [Pa.nd_yes h3,Pa.bd_ok] at hL
       simp only at hL
       cases h4:Pa.rank ts m 1 (p+1) with
       | none=>rw [h4,Pa.bd_none] at hL;simp at hL
       | some q2 =>
        rw [h4] at hL
        have HE:Hid (∀ W,Pa.Tb g W→Pa.P ts g a c E (p+1) W→Calls Tryz.prog 120 #[.pointer (some ⟨g,0,none⟩)] W (Pa.Ans ts g a c E q2 W)):=fun W hb hp=>Pa.value_any m (ih m (by omega)) q2 h4 hb hp
        cases q2 with
        | error k4 =>
         rw [Pa.bd_err,Option.some.injEq] at hL
         subst hL
         rw [Pa.bd_err,Option.some.injEq] at hr
         subst hr
         go_wp2_with (first
          | (have _t:=mkB;go_at_call 67;refine (Pa.needsM_ok [44] h3 hT.1).mono ?_;rintro e V ⟨rfl,hT'⟩;replace hKr:=hKr.fr hT'.2 hgw;replace hT:=hT.to hT';clear hT' mkB)
          | (go_at_call 120;refine (HE.out _ (hB.fr hT.2) hT.1).mono ?_;rintro e V ⟨rfl,hF'⟩;have hF:=hT.2.trans hF';unfold Pa.pan))
         exact ⟨rfl,rfl,hF⟩
        | ok x4 =>
         rw [Pa.bd_ok] at hL
         go_wp2_with (first
          | (have _t:=mkB;go_at_call 67;refine (Pa.needsM_ok [44] h3 hT.1).mono ?_;rintro e V ⟨rfl,hT'⟩;replace hKr:=hKr.fr hT'.2 hgw;replace hT:=hT.to hT';clear hT' mkB)
          | (go_at_call 120;refine (HE.out _ (hB.fr hT.2) hT.1).mono ?_;rintro e V ⟨ty,y,rfl,hR,hT'⟩;have hCB:=hT.2.size;have hkC:=(fun k (hk:(Value.slice oa us.length oc).ownBlock=some k)=>(hKr.blk hk).1);replace hKr:=hKr.fr hT'.2 hgw;replace hT:=hT.to hT';clear hT')
          | (at_builtin;refine Pa.wp_push (g:=g) (l:=us) rfl _ _ rfl hKr rfl rfl rfl hR hCB hkC (by have:=hT.2.size;omega) (by omega) hgw (Nat.lt_of_lt_of_le hgw hT.2.size) ?_;intro a' c' V5 hKr5 hFg hPg hsz5;have hT5:Pa.Pt ts g a c E _ w V5:=⟨hPg _ _ _ _ _ hT.1,hFg _ hT.2 (Nat.le_refl _)⟩;replace hT:=hT5;clear hT5 hFg hPg hsz5 hKr hR))
         exact ⟨⟨m,k+1,us++[x4.1],x4.2,a',c',by omega,by omega,by simp,by simp,hKr5,hT,hL,by rw [List.length_append,HUL.out];rfl⟩,by simp [intOf];omega⟩
     ·rw [if_neg hk0,Pa.bd_ok] at hL
      simp only at hL
      have hk00:k=0:=by omega
      subst hk00
      cases h4:Pa.rank ts m 1 p with
      | none=>rw [h4,Pa.bd_none] at hL;simp at hL
      | some q2 =>
       rw [h4] at hL
       have HE:Hid (∀ W,Pa.Tb g W→Pa.P ts g a c E p W→Calls Tryz.prog 120 #[.pointer (some ⟨g,0,none⟩)] W (Pa.Ans ts g a c E q2 W)):=fun W hb hp=>Pa.value_any m (ih m (by omega)) q2 h4 hb hp
       cases q2 with
       | error k4 =>
        rw [Pa.bd_err,Option.some.injEq] at hL
        subst hL
        rw [Pa.bd_err,Option.some.injEq] at hr
        subst hr
        go_wp2_with (first
         | (go_at_call 120;refine (HE.out _ (hB.fr hT.2) hT.1).mono ?_;rintro e V ⟨rfl,hF'⟩;have hF:=hT.2.trans hF';unfold Pa.pan))
        exact ⟨rfl,rfl,hF⟩
       | ok x4 =>
        rw [Pa.bd_ok] at hL
        go_wp2_with (first
         | (go_at_call 120;refine (HE.out _ (hB.fr hT.2) hT.1).mono ?_;rintro e V ⟨ty,y,rfl,hR,hT'⟩;have hCB:=hT.2.size;have hkC:=(fun k (hk:(Value.slice oa us.length oc).ownBlock=some k)=>(hKr.blk hk).1);replace hKr:=hKr.fr hT'.2 hgw;replace hT:=hT.to hT';clear hT')
         | (at_builtin;refine Pa.wp_push (g:=g) (l:=us) rfl _ _ rfl hKr rfl rfl rfl hR hCB hkC (by have:=hT.2.size;omega) (by omega) hgw (Nat.lt_of_lt_of_le hgw hT.2.size) ?_;intro a' c' V5 hKr5 hFg hPg hsz5;have hT5:Pa.Pt ts g a c E _ w V5:=⟨hPg _ _ _ _ _ hT.1,hFg _ hT.2 (Nat.le_refl _)⟩;replace hT:=hT5;clear hT5 hFg hPg hsz5 hKr hR))
        exact ⟨⟨m,1,us++[x4.1],x4.2,a',c',by omega,by omega,by simp,by simp,hKr5,hT,hL,by rw [List.length_append,HUL.out];rfl⟩,by simp [intOf];try omega⟩
    ·rw [if_neg hgo,Option.some.injEq] at hL
     subst hL
     have hgoI:¬ (k:Int) < (K:Int):=by omega
     rw [Pa.bd_ok] at hr
     simp only at hr
     cases h5:Pa.st ts 5 [41] p with
     | false =>
      rw [Pa.nd_no h5,Pa.bd_err,Option.some.injEq] at hr
      subst hr
      go_wp2_with ((have _t:=mkB;go_at_call 67;refine (Pa.needsM_no [41] h5 hT.1).mono ?_;rintro e V ⟨rfl,hT'⟩;have hF:=(hT.to hT').2;clear mkB;unfold Pa.pan))
      exact ⟨rfl,rfl,hF⟩
     | true =>
      rw [Pa.nd_yes h5,Pa.bd_ok,Option.some.injEq] at hr
      subst hr
      go_wp2_with (have _t:=mkB;go_at_call 67;refine (Pa.needsM_ok [41] h5 hT.1).mono ?_;rintro e V ⟨rfl,hT'⟩;replace hKr:=hKr.fr hT'.2 hgw;replace hT:=hT.to hT';clear hT' mkB)
      go_ret
      exact ⟨_,_,rfl,hKr,hT⟩
variable {ts:List (Mill.Piece × Nat)} {g:Nat} {a:Option Addr} {c E i j:Nat} {w W W2:World}
def Pa.AnsC (ts:List (Mill.Piece × Nat)) (g:Nat) (a:Option Addr) (c E:Nat) (x:List UInt8) (r:Except Nat (List Mill.Tr × Nat)) (w:World) (e:Ending) (w':World):Prop:=match r with
 | .ok p => ∃ va vc,e = .returned (.agg #[.string (Mill.ba x),.slice va p.1.length vc])∧Pa.Kr w.heap.size w' va vc p.1∧Pa.Pt ts g a c E p.2 w w'
 | .error k=>e=Pa.pan ts E k∧Pa.Fr g w w'
structure Pa.Cw (ts:List (Mill.Piece × Nat)) (g:Nat) (a:Option Addr) (c E:Nat) (w:World) (X:ByteArray) (p:Nat) (W:World) (va:Option Addr) (vc:Nat) (l:List Mill.Tr):Prop where
 T:Pa.Pt ts g a c E p w W
 res:W.heap[w.heap.size]? = some (.cells #[.string ⟨#[]⟩,.slice none 0 0] 168)
 cal:W.heap[w.heap.size+1]? = some (.cells #[.string X,.slice va l.length vc] 168)
 K:Pa.Kr (w.heap.size+2) W va vc l
 gw:g < w.heap.size
variable {X:ByteArray} {p p2:Nat} {va:Option Addr} {vc:Nat} {l:List Mill.Tr}
theorem Pa.Cw.to (h:Pa.Cw ts g a c E w X p W va vc l) (hT:Pa.Pt ts g a c E p2 W W2):Pa.Cw ts g a c E w X p2 W2 va vc l:=by
 have hg:=h.gw
 have h1:=(Array.getElem?_eq_some_iff.1 h.res).1
 have h2:=(Array.getElem?_eq_some_iff.1 h.cal).1
 exact ⟨h.T.to hT,(hT.2.keep _ h1 (by omega)).trans h.res,(hT.2.keep _ h2 (by omega)).trans h.cal,h.K.fr hT.2 (by omega),hg⟩
theorem Pa.Cw.cells (h:Pa.Cw ts g a c E w X p W va vc l):W.cell? ⟨w.heap.size,0,none⟩=some (.string ⟨#[]⟩)∧W.cell? ⟨w.heap.size,1,none⟩=some (.slice none 0 0)∧W.cell? ⟨w.heap.size+1,0,none⟩=some (.string X)∧W.cell? ⟨w.heap.size+1,1,none⟩=some (.slice va l.length vc)∧(∀ k,W.frozen? ⟨w.heap.size,k,none⟩=false)∧∀ k,W.frozen? ⟨w.heap.size+1,k,none⟩=false:=by
 have h1:=h.res
 have h2:=h.cal
 refine ⟨?_, ?_, ?_, ?_,fun k => ?_,fun k => ?_⟩
 ·rw [Lib.cell_of_heap h1];rfl
 ·rw [Lib.cell_of_heap h1];rfl
 ·rw [Lib.cell_of_heap h2];rfl
 ·rw [Lib.cell_of_heap h2];rfl
 ·simp [World.frozen?,h1]
 ·simp [World.frozen?,h2]
def Pa.leftP (g n:Nat) (W:World):Nat:=match W.cell? ⟨g,1,none⟩ with
 | some (.int _ k)=>n+1 - k.toNat
 | _=>0
theorem Pa.P.left (h:Pa.P ts g a c E p W):Pa.leftP g ts.length W=ts.length+1 - p:=by simp [Pa.leftP,h.cells.2.1]
theorem Pa.Cw.start (hP:Pa.P ts g a c E p w) (X:ByteArray):Pa.Cw ts g a c E w X p ((w.alloc (.cells #[.string ⟨#[]⟩,.slice none 0 0] 168)).alloc (.cells #[.string X,.slice none 0 0] 168)) none 0 []:=by
 have hb:Below w.heap.size w ((w.alloc (.cells #[.string ⟨#[]⟩,.slice none 0 0] 168)).alloc (.cells #[.string X,.slice none 0 0] 168)):=((Below.refl _ _).alloc (Nat.le_refl _) _).alloc (by simp) _
 have h1:=heap_alloc_new w (.cells #[.string ⟨#[]⟩,.slice none 0 0] 168)
 have h2:=heap_alloc_new (w.alloc (.cells #[.string ⟨#[]⟩,.slice none 0 0] 168)) (.cells #[.string X,.slice none 0 0] 168)
 rw [World.size_alloc] at h2
 have hb2:Below (w.alloc (.cells #[.string ⟨#[]⟩,.slice none 0 0] 168)).heap.size (w.alloc (.cells #[.string ⟨#[]⟩,.slice none 0 0] 168)) ((w.alloc (.cells #[.string ⟨#[]⟩,.slice none 0 0] 168)).alloc (.cells #[.string X,.slice none 0 0] 168)):=(Below.refl _ _).alloc (Nat.le_refl _) _
 exact ⟨⟨hP.below hb,Pa.Fr.of_below hb⟩,(hb2.block _ (by simp)).trans h1,h2,Pa.Kr.nil _ _,hP.lt⟩
theorem Pa.Cw.store {a':Option Addr} {c':Nat} {l':List Mill.Tr} (h:Pa.Cw ts g a c E w X p W va vc l) (hK:Pa.Kr (w.heap.size+2) W2 a' c' l') (hFg:∀ V,Pa.Fr g V W→V.heap.size≤w.heap.size+2→Pa.Fr g V W2) (hPg:∀ ts a c E i,Pa.P ts g a c E i W→Pa.P ts g a c E i W2) (hk:W.heap.size≤W2.heap.size∧∀ k,k < w.heap.size+2→k < W.heap.size→W2.heap[k]? = W.heap[k]?):Pa.Cw ts g a c E w X p (W2.setCell ⟨w.heap.size+1,1,none⟩ (.slice a' l'.length c')) a' c' l':=by
 have hg:=h.gw
 have h1:=(Array.getElem?_eq_some_iff.1 h.res).1
 have h2:=(Array.getElem?_eq_some_iff.1 h.cal).1
 have hF2:=hFg w h.T.2 (by omega)
 have hP2:=hPg _ _ _ _ _ h.T.1
 refine ⟨⟨⟨?_,hP2.tks.keep fun j hj=>Below.heap_setCell _ _ _ _ (by simp only;omega),hP2.le,hP2.len,hP2.cap⟩,⟨hF2.os,hF2.tape,hF2.output,by simpa [World.setCell] using hF2.size,fun j hj hjg=>(Below.heap_setCell _ _ _ _ (by simp only;omega)).trans (hF2.keep j hj hjg)⟩⟩, ?_, ?_,hK.set (by omega) _,hg⟩
 ·rw [Below.heap_setCell _ _ _ _ (by simp only;omega)];exact hP2.blk
 ·rw [Below.heap_setCell _ _ _ _ (by simp only;omega),hk.2 _ (by omega) h1];exact h.res
 ·have:=(hk.2 _ (by omega) h2).trans h.cal
  simp [World.setCell,Array.getElem?_modify,this]
theorem Pa.set2 {W:World} {n:Nat} {x0 x1 v0 v1:Value} (r0:W.cell? ⟨n,0,none⟩=some x0) (r1:W.cell? ⟨n,1,none⟩=some x1):((W.setCell ⟨n,0,none⟩ v0).setCell ⟨n,1,none⟩ v1).cell? ⟨n,0,none⟩=some v0∧((W.setCell ⟨n,0,none⟩ v0).setCell ⟨n,1,none⟩ v1).cell? ⟨n,1,none⟩=some v1:=by
 refine ⟨?_, ?_⟩
 ·rw [World.cell?_setCell_other _ _ _ _ (by simp)];exact World.cell?_setCell_same _ _ _ r0
 ·exact World.cell?_setCell_same _ _ _ (by rw [World.cell?_setCell_other _ _ _ _ (by simp)];exact r1)
theorem Pa.Cw.ret {v0 v1:Value} (h:Pa.Cw ts g a c E w X p W va vc l):Pa.Kr w.heap.size ((W.setCell ⟨w.heap.size,0,none⟩ v0).setCell ⟨w.heap.size,1,none⟩ v1) va vc l∧Pa.Pt ts g a c E p w ((W.setCell ⟨w.heap.size,0,none⟩ v0).setCell ⟨w.heap.size,1,none⟩ v1):=by
 have hg:=h.gw
 have hP:=h.T.1
 have hF:=h.T.2
 have hk:∀ k,k≠w.heap.size→((W.setCell ⟨w.heap.size,0,none⟩ v0).setCell ⟨w.heap.size,1,none⟩ v1).heap[k]? = W.heap[k]?:=fun k hk=>(Below.heap_setCell _ _ _ _ hk).trans (Below.heap_setCell _ _ _ _ hk)
 refine ⟨((h.K.set (by omega) _).set (by omega) _).mono (by omega),⟨(hk _ (by omega)).trans hP.blk,hP.tks.keep fun j hj=>hk _ (by omega),hP.le,hP.len,hP.cap⟩,⟨hF.os,hF.tape,hF.output,by simpa [World.setCell] using hF.size,fun j hj hjg=>(hk _ (by omega)).trans (hF.keep j hj hjg)⟩⟩
theorem Pa.Cw.drew (h:Pa.Cw ts g a c E w X p W va vc l):Pa.Cw ts g a c E w X p W.drew va vc l:=h.to ⟨h.T.1.below (Pa.below_drew (Below.refl _ _)),Pa.Fr.of_below (Pa.below_drew (Below.refl _ _))⟩
theorem Pa.call_any (n:Nat) (x:List UInt8) (ih:∀ m,m≤n→Pa.RankIs ts g a c E m) (r:Except Nat (List Mill.Tr × Nat)) (hr:Pa.call ts (n+1) i=some r) (hB:Pa.Tb g w) (hP:Pa.P ts g a c E i w) :
  Calls Tryz.prog 138 #[.pointer (some ⟨g,0,none⟩),.string (Mill.ba x)] w (Pa.AnsC ts g a c E x r w):=by
 have hgw:=hP.lt
 obtain ⟨X,HX⟩:∃ X,Hid (Mill.ba x=X):=⟨_,rfl⟩
 unfold Pa.AnsC
 rw [HX.out]
 have hC:=Pa.Cw.start hP X
 have mkA:True:=trivial
 have mkB:True:=trivial
 have mkC:True:=trivial
 rw [Pa.call] at hr
 cases h1:Pa.st ts 5 [40] i with
 | false =>
  rw [Pa.nd_no h1,Pa.bd_err,Option.some.injEq] at hr
  subst hr
  go_enter Tryz.func138,Tryz.ntmps138
  go_wp2_with (go_at_call 67;refine (Pa.needsM_no [40] h1 hC.T.1).mono ?_;rintro e V ⟨rfl,hT'⟩;have hF:=(hC.T.to hT').2;unfold Pa.pan)
  exact ⟨rfl,rfl,hF⟩
 | true =>
  rw [Pa.nd_yes h1,Pa.bd_ok] at hr
  simp only at hr
  cases h2:Pa.st ts 5 [41] (i+1) with
  | true =>
   rw [h2,if_pos rfl,Option.some.injEq] at hr
   subst hr
   go_enter Tryz.func138,Tryz.ntmps138
   go_wp2_with (first
    | (have _t:=mkA;go_at_call 67;refine (Pa.needsM_ok [40] h1 hC.T.1).mono ?_;rintro e V ⟨rfl,hT'⟩;replace hC:=hC.to hT';clear hT' mkA)
    | (go_at_call 68;refine (Pa.takesM_any [41] hC.T.1).mono ?_;rintro e V ⟨rfl,hT'⟩;rw [h2] at hT' ⊢;rw [if_pos rfl] at hT';replace hC:=hC.to hT';clear hT';obtain ⟨z0,z1,z2,z3,f0,f1⟩:=hC.cells))
   obtain ⟨y0,y1⟩:=Pa.set2 (v0:=.string X) (v1:=.slice none 0 0) z0 z1
   have hE:=hC.ret (v0:=.string X) (v1:=.slice none 0 0)
   refine bodyPost_ret (v:=.agg #[.string X,.slice none 0 0]) (by simp [results,Tryz.results138,go_sem,y0,y1]) rfl ?_
   exact ⟨_,_,rfl,hE.1,hE.2⟩
  | false =>
   rw [h2,if_neg (by simp)] at hr
   have HR:Hid (Pa.args ts n [] (i+1)=some r):=hr
   clear hr
   go_enter Tryz.func138,Tryz.ntmps138
   go_wp2_with (first
    | (have _t:=mkA;go_at_call 67;refine (Pa.needsM_ok [40] h1 hC.T.1).mono ?_;rintro e V ⟨rfl,hT'⟩;replace hC:=hC.to hT';clear hT' mkA)
    | (go_at_call 68;refine (Pa.takesM_any [41] hC.T.1).mono ?_;rintro e V ⟨rfl,hT'⟩;rw [h2] at hT' ⊢;rw [if_neg (by simp)] at hT';replace hC:=hC.to hT';clear hT'))
   go_loopw [13] (fun _ wr => ∃ (m:Nat) (us:List Mill.Tr) (p:Nat) (oa:Option Addr) (oc:Nat),m≤n∧Pa.Cw ts g a c E w X p wr oa oc us∧Pa.args ts m us p=some r∧us.length≤p) (fun _ wr=>Pa.leftP g ts.length wr)
   case atStart=>exact ⟨n,[],_,_,_,Nat.le_refl _,hC,HR.out,by simp⟩
   case round =>
    clear hC
    obtain ⟨m,us,p,oa,oc,hm,hC,hL,hup⟩:=hrel
    obtain ⟨m,rfl⟩:∃ m',m=m'+1:=by
     cases m with
     | zero=>simp [Pa.args] at hL
     | succ m=>exact ⟨m,rfl⟩
    rw [Pa.args] at hL
    obtain ⟨z0,z1',z2',z3,f0,f1⟩:=hC.cells
    have hple:=hC.T.1.le
    have hplen:=hC.T.1.len
    have hub:us.length+1≤1000000:=by omega
    have hcl:w.heap.size+2≤wr.heap.size:=by have:=(Array.getElem?_eq_some_iff.1 hC.cal).1;omega
    have hCC:w.heap.size+2≤wr.drew.heap.size:=hcl
    have hkC:∀ k,(Value.slice oa us.length oc).ownBlock=some k→k < wr.drew.heap.size:=fun k hk=>(hC.K.blk hk).1
    have hgd:g < wr.drew.heap.size:=Nat.lt_of_lt_of_le (by omega) hcl
    have HBd:Pa.Tb g wr.drew:=hB.fr hC.drew.T.2
    have HPd:Pa.P ts g a c E p wr.drew:=hC.drew.T.1
    cases h4:Pa.rank ts m 1 p with
    | none=>rw [h4,Pa.bd_none] at hL;simp at hL
    | some q2 =>
     rw [h4] at hL
     have HE:Hid (∀ W,Pa.Tb g W→Pa.P ts g a c E p W→Calls Tryz.prog 120 #[.pointer (some ⟨g,0,none⟩)] W (Pa.Ans ts g a c E q2 W)):=fun W hb hp=>Pa.value_any m (ih m (by omega)) q2 h4 hb hp
     cases q2 with
     | error k4 =>
      rw [Pa.bd_err,Option.some.injEq] at hL
      subst hL
      go_wp2_with fail
      refine wp_region_held_drew (S:=fun V=>V.cell? ⟨w.heap.size+1,1,none⟩=some (.slice oa us.length oc)) (by kernel_rfl) (z3) (fun hHeld => ?_)
      refine Tk 0 (.pointer (some ⟨w.heap.size+1,1,none⟩)) ?_
      try simp [Act.put]
      refine Tk 1 (.slice oa us.length oc) ?_
      try simp [Act.put]
      refine Tk 2 (.pointer (some ⟨g,0,none⟩)) ?_
      try simp [Act.put]
      refine wpAnyH_ready (rs:=[3]) (by kernel_rfl) (by simp) ?_
      refine AllReadyH.cons rfl (fun KK hK => ?_) AllReadyH.nil
      go_simp
      (go_at_call 120;refine (HE.out _ HBd HPd).mono ?_;rintro e V4 ⟨rfl,hF'⟩;have hF:=hC.drew.T.2.trans hF';unfold Pa.pan;exact And.intro rfl (And.intro rfl hF))
     | ok x4 =>
      rw [Pa.bd_ok] at hL
      have hlt:=(Pa.lt_all ts m).rank _ _ _ h4
      go_wp2_with fail
      go_region_law (first
       | (go_simp;go_at_call 120;refine (HE.out _ HBd HPd).mono ?_;rintro e V4 ⟨ty,y,rfl,hR,hT'⟩;have hC4:=hC.drew.to hT';have z1:=hC4.cells.2.2.2.1;have z2:(V4.alloc (.cells #[.iface ty y] 70)).cell? ⟨w.heap.size+1,1,none⟩=some (.slice oa us.length oc):=(by rw [World.cell?_alloc_lt _ _ ⟨w.heap.size+1,1,none⟩ (World.block_lt_of_cell? _ _ z1)];exact z1);(try simp only))
       | (refine Pa.step_push (g:=g) rfl (.tmp 14) (.tmp 17) rfl hC4.K hR hCC hkC (Nat.le_trans hCC hT'.2.size) hub (by omega) (Nat.lt_of_lt_of_le hgd hT'.2.size) rfl rfl ?_;intro a' c' w5 hK5 hFg hPg hsz5;have u1:w5.cell? ⟨w.heap.size+1,1,none⟩=some (.slice oa us.length oc):=(by rw [World.cell?_of_block (hsz5.2 (w.heap.size+1) (by omega) (World.block_lt_of_cell? _ _ z1))];exact z1);have u2:w5.frozen? ⟨w.heap.size+1,1,none⟩=false:=(by rw [World.frozen?_of_block (hsz5.2 (w.heap.size+1) (by omega) (World.block_lt_of_cell? _ _ z1))];exact hC4.cells.2.2.2.2.2 1)))
      all_goals
       have e5:(us++[x4.1]).length=us.length+1:=by simp
       have hC5:=hC4.store hK5 hFg hPg hsz5
       rw [e5] at hC5
       obtain ⟨V5,hV5⟩:∃ V5,w5.setCell ⟨w.heap.size+1,1,none⟩ (.slice a' (us.length+1) c')=V5:=⟨_,rfl⟩
       rw [hV5] at hC5 ⊢
       have hlp:=hC.T.1.left
       clear hV5 u1 u2 hsz5 hPg hFg hK5 z1 z2 hC4 hR hT' hC z0 z1' z2' z3 f0 f1 HBd HPd hkC hCC hgd hcl HE
       cases h6:Pa.st ts 5 [41] x4.2 with
       | true =>
        rw [h6,if_pos rfl,Option.some.injEq] at hL
        subst hL
        go_wp2_with (go_at_call 68;refine (Pa.takesM_any [41] hC5.T.1).mono ?_;rintro e V ⟨rfl,hT'⟩;rw [h6] at hT' ⊢;rw [if_pos rfl] at hT';replace hC5:=hC5.to hT';clear hT';obtain ⟨z0,z1,z2,z3,f0,f1⟩:=hC5.cells;rw [e5] at z3)
        obtain ⟨y0,y1⟩:=Pa.set2 (v0:=.string X) (v1:=.slice a' (us.length+1) c') z0 z1
        have hE:=hC5.ret (v0:=.string X) (v1:=.slice a' (us.length+1) c')
        refine bodyPost_ret (v:=.agg #[.string X,.slice a' (us.length+1) c']) (by simp [results,Tryz.results138,go_sem,y0,y1]) rfl ?_
        exact ⟨a',c',by simp,hE.1,hE.2⟩
       | false =>
        rw [h6,if_neg (by simp)] at hL
        cases h7:Pa.st ts 5 [44] x4.2 with
        | false =>
         rw [Pa.nd_no h7,Pa.bd_err,Option.some.injEq] at hL
         subst hL
         go_wp2_with (first
          | (go_at_call 68;refine (Pa.takesM_any [41] hC5.T.1).mono ?_;rintro e V ⟨rfl,hT'⟩;rw [h6] at hT' ⊢;rw [if_neg (by simp)] at hT';replace hC5:=hC5.to hT';clear hT')
          | (go_at_call 67;refine (Pa.needsM_no [44] h7 hC5.T.1).mono ?_;rintro e V ⟨rfl,hT'⟩;have hF:=(hC5.T.to hT').2;unfold Pa.pan))
         exact ⟨rfl,rfl,hF⟩
        | true =>
         rw [Pa.nd_yes h7,Pa.bd_ok] at hL
         simp only at hL
         have HL:Hid (Pa.args ts m (us++[x4.1]) (x4.2+1)=some r):=hL
         clear hL
         go_wp2_with (first
          | (go_at_call 68;refine (Pa.takesM_any [41] hC5.T.1).mono ?_;rintro e V ⟨rfl,hT'⟩;rw [h6] at hT' ⊢;rw [if_neg (by simp)] at hT';replace hC5:=hC5.to hT';clear hT')
          | (go_at_call 67;refine (Pa.needsM_ok [44] h7 hC5.T.1).mono ?_;rintro e V ⟨rfl,hT'⟩;replace hC5:=hC5.to hT';clear hT'))
         go_roundw
         case rel=>exact ⟨m,us++[x4.1],x4.2+1,a',c',by omega,hC5,HL.out,by simp;omega⟩
         case measure=>rw [hlp,hC5.T.1.left];have:=hC5.T.1.le;omega
end Go.Proofs.YtlcckaffhnjneaaGreatDoor
