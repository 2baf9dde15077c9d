import Derived.Test.YtkikhpppkpelfaaGreatKBoxC
import Derived.Deep.RegionWith
import Derived.Shelf.Spec.SearchS
namespace Go.Proofs.YtkikhpppkpelfaaGreat
open Go.RowKit
theorem Bx.row1 {w w1:World} {a0:Value} {t:TypeId} (hb:Below (w.heap.size+1) (w.alloc (.cells #[a0] t)) w1):w1.cell? ⟨w.heap.size,0,none⟩=some a0:=by
  have h1:=hb.block w.heap.size (by omega)
  rw [(MapKept.heap_alloc w _).1] at h1
  simp [World.cell?,h1]
theorem Bx.row1n {w1 w2:World} {g:Nat} {a0:Value} (h:w1.cell? ⟨g,0,none⟩=some a0) (hg:g < w1.heap.size) (hb:Below w1.heap.size w1 w2):w2.cell? ⟨g,0,none⟩=some a0:=by
  rw [hb.cell (p:=⟨g,0,none⟩) hg];exact h
def Bx.lt (a b:ByteArray):Bool:=Op.bytesLess a.toList b.toList
theorem Bx.less_trans : ∀ (x y z:List UInt8),Op.bytesLess x y=true→Op.bytesLess y z=true→Op.bytesLess x z=true:=by
  intro x
  induction x with
  | nil =>
    intro y z h1 h2
    cases z with
    | nil=>cases y <;> simp [Op.bytesLess] at h2
    | cons c t=>rfl
  | cons a r ih =>
    intro y z h1 h2
    cases y with
    | nil=>simp [Op.bytesLess] at h1
    | cons b s =>
      cases z with
      | nil=>simp [Op.bytesLess] at h2
      | cons c t =>
        simp only [Op.bytesLess,Bool.or_eq_true,Bool.and_eq_true,decide_eq_true_eq,beq_iff_eq,UInt8.lt_iff_toNat_lt] at h1 h2 ⊢
        rcases h1 with h1 | ⟨rfl,h1⟩
        · rcases h2 with h2 | ⟨rfl,h2⟩
          · exact .inl (by omega)
          · exact .inl h1
        · rcases h2 with h2 | ⟨rfl,h2⟩
          · exact .inl h2
          · exact .inr ⟨rfl,ih s t h1 h2⟩
theorem Bx.less_irr (x:List UInt8):Op.bytesLess x x=false:=by
  have h:=Jb.less_le x x
  rw [beq_self_eq_true,Bool.or_true] at h
  cases hb:Op.bytesLess x x with
  | false=>rfl
  | true=>rw [hb] at h;cases h
theorem Bx.list_eq {a b:ByteArray} (h:a.toList=b.toList):a=b:=by
  rw [ByteArray.toList_eq,ByteArray.toList_eq] at h;exact ByteArray.ext (Array.toList_inj.1 h)
theorem Bx.lt_irr (a:ByteArray):Bx.lt a a=false:=Bx.less_irr _
theorem Bx.lt_trans {a b c:ByteArray} (h1:Bx.lt a b=true) (h2:Bx.lt b c=true):Bx.lt a c=true:=Bx.less_trans _ _ _ h1 h2
theorem Bx.lt_ne {a b:ByteArray} (h:Bx.lt a b=true):a≠b:=fun e=>by rw [e,Bx.lt_irr] at h;cases h
theorem Bx.lt_asymm {a b:ByteArray} (h:Bx.lt a b=true):Bx.lt b a=false:=by
  cases hb:Bx.lt b a with
  | false=>rfl
  | true=>have:=Bx.lt_trans h hb;rw [Bx.lt_irr] at this;cases this
theorem Bx.lt_tri {a b:ByteArray} (h:Bx.lt a b=false) (hne:a≠b):Bx.lt b a=true:=by
  have h1:=Jb.less_le a.toList b.toList
  unfold Bx.lt at h ⊢
  rw [h,Bool.false_or] at h1
  have h2:(a.toList == b.toList)=false:=by rw [beq_eq_false_iff_ne];exact fun e=>hne (Bx.list_eq e)
  rw [h2] at h1
  cases hb:Op.bytesLess b.toList a.toList with
  | true=>rfl
  | false=>rw [hb] at h1;cases h1
def Bx.Up : List Bx.Fl→Prop
  | []=>True
  | a::r=>(∀ b ∈ r,Bx.lt a.name b.name=true)∧Bx.Up r
theorem Bx.up_get : ∀ {fs:List Bx.Fl},Bx.Up fs→∀ (i j:Nat) (hi:i < j) (hj:j < fs.length),Bx.lt (fs[i]'(by omega)).name fs[j].name=true
  | a::r,h,0,j+1,_,hj=>h.1 _ (List.getElem_mem (by simpa using hj))
  | a::r,h,i+1,j+1,hi,hj=>Bx.up_get h.2 i j (by omega) (by simpa using hj)
theorem Bx.up_of : ∀ {fs:List Bx.Fl},(∀ (i j:Nat) (hi:i < j) (hj:j < fs.length),Bx.lt (fs[i]'(by omega)).name fs[j].name=true)→Bx.Up fs
  | [],_=>trivial
  | a::r,h=>⟨fun b hb=>by
      obtain ⟨k,hk,rfl⟩:=List.getElem_of_mem hb
      exact h 0 (k+1) (by omega) (by simpa using hk),Bx.up_of fun i j hi hj=>h (i+1) (j+1) (by omega) (by simpa using hj)⟩
theorem Bx.okN_all {fs:List Bx.Fl}:∀ {n:Nat},Bx.okN fs n=true→∀ i,i < n→Bx.okI fs i=true
  | n+1,h,i,hi=>by
    rw [Bx.okN,Bool.and_eq_true] at h
    by_cases e:i=n
    · subst e;exact h.2
    · exact Bx.okN_all h.1 i (by omega)
theorem Bx.ok_len {fs:List Bx.Fl} {m:Nat} (h:Bx.ok fs m=true):fs.length≤m:=by
  unfold Bx.ok at h;rw [Bool.and_eq_true] at h;exact of_decide_eq_true h.1
theorem Bx.ok_good {fs:List Bx.Fl} {m:Nat} (h:Bx.ok fs m=true):∀ f ∈ fs,Bx.good f=true:=fun f hf=>by
  unfold Bx.ok at h;rw [Bool.and_eq_true] at h
  obtain ⟨i,hi,rfl⟩:=List.getElem_of_mem hf
  have h1:=Bx.okN_all h.2 i hi
  unfold Bx.okI at h1
  rw [List.getElem?_eq_getElem hi] at h1
  simp only [Bool.and_eq_true] at h1
  exact h1.1
theorem Bx.ok_up {fs:List Bx.Fl} {m:Nat} (h:Bx.ok fs m=true):Bx.Up fs:=by
  unfold Bx.ok at h;rw [Bool.and_eq_true] at h
  have hstep:∀ k (hk:k+1 < fs.length),Bx.lt (fs[k]'(by omega)).name fs[k+1].name=true:=fun k hk=>by
    have h1:=Bx.okN_all h.2 (k+1) hk
    unfold Bx.okI at h1
    rw [List.getElem?_eq_getElem hk] at h1
    simp only [Bool.and_eq_true] at h1
    have h2:=h1.2
    rw [List.getElem?_eq_getElem (by omega:k < fs.length)] at h2
    exact h2
  refine Bx.up_of fun i j hi hj => ?_
  obtain ⟨d,rfl⟩:∃ d,j=i+1+d:=⟨j - i - 1,by omega⟩
  induction d with
  | zero=>exact hstep i hj
  | succ d ih=>exact Bx.lt_trans (ih (by omega) (by omega)) (hstep (i+1+d) hj)
theorem Bx.ok_of {fs:List Bx.Fl} {m:Nat} (hm:fs.length≤m) (hu:Bx.Up fs) (hg:∀ f ∈ fs,Bx.good f=true):Bx.ok fs m=true:=by
  unfold Bx.ok
  rw [Bool.and_eq_true]
  refine ⟨by simpa using hm, ?_⟩
  have:∀ n,n≤fs.length→Bx.okN fs n=true:=by
    intro n
    induction n with
    | zero=>intro _;rfl
    | succ n ih =>
      intro hn
      rw [Bx.okN,ih (by omega),Bool.true_and]
      unfold Bx.okI
      rw [List.getElem?_eq_getElem (by omega:n < fs.length)]
      simp only [Bool.and_eq_true]
      refine ⟨hg _ (List.getElem_mem _), ?_⟩
      cases n with
      | zero=>rfl
      | succ k=>simp only;rw [List.getElem?_eq_getElem (by omega:k < fs.length)];exact Bx.up_get hu k (k+1) (by omega) (by omega)
  exact this _ (Nat.le_refl _)
def Bx.look (fs:List Bx.Fl) (x:ByteArray):Option Bx.Fl:=fs.find? (fun f=>decide (f.name=x))
def Bx.put : List Bx.Fl→Bx.Fl→List Bx.Fl
  | [],f=>[f]
  | a::r,f=>if Bx.lt a.name f.name=true then a::Bx.put r f else if a.name=f.name then f::r else f::a::r
theorem Bx.look_none_iff {fs:List Bx.Fl} {x:ByteArray}:Bx.look fs x=none ↔ ∀ f ∈ fs,f.name≠x:=by
  unfold Bx.look;rw [List.find?_eq_none];simp
theorem Bx.look_cons (a:Bx.Fl) (r:List Bx.Fl) (x:ByteArray):Bx.look (a::r) x=if a.name=x then some a else Bx.look r x:=by
  unfold Bx.look;rw [List.find?_cons]
  by_cases h:a.name=x
  · simp [h]
  · simp [h]
theorem Bx.look_put : ∀ {fs:List Bx.Fl} (_:Bx.Up fs) (f:Bx.Fl) (x:ByteArray),Bx.look (Bx.put fs f) x=if f.name=x then some f else Bx.look fs x
  | [],_,f,x=>by rw [Bx.put,Bx.look_cons]
  | a::r,h,f,x=>by
    rw [Bx.put]
    split
    · rename_i hl
      rw [Bx.look_cons,Bx.look_put h.2 f x,Bx.look_cons]
      by_cases h1:a.name=x
      · have:¬ f.name=x:=fun e=>Bx.lt_ne hl (h1.trans e.symm)
        rw [if_pos h1,if_neg this,if_pos h1]
      · rw [if_neg h1,if_neg h1]
    · split
      · rename_i hl he
        rw [Bx.look_cons,Bx.look_cons]
        by_cases h1:f.name=x
        · rw [if_pos h1,if_pos h1]
        · rw [if_neg h1,if_neg h1,if_neg (by rw [he];exact h1)]
      · rw [Bx.look_cons]
theorem Bx.put_mem : ∀ {fs:List Bx.Fl} {f b:Bx.Fl},b ∈ Bx.put fs f→b=f∨b ∈ fs
  | [],f,b,h=>by simp [Bx.put] at h;exact .inl h
  | a::r,f,b,h=>by
    rw [Bx.put] at h
    split at h
    · rcases List.mem_cons.1 h with rfl | h
      · exact .inr (List.mem_cons_self)
      · rcases Bx.put_mem h with h | h
        · exact .inl h
        · exact .inr (List.mem_cons_of_mem _ h)
    · split at h
      · rcases List.mem_cons.1 h with rfl | h
        · exact .inl rfl
        · exact .inr (List.mem_cons_of_mem _ h)
      · rcases List.mem_cons.1 h with rfl | h
        · exact .inl rfl
        · exact .inr h
theorem Bx.up_put : ∀ {fs:List Bx.Fl} (_:Bx.Up fs) (f:Bx.Fl),Bx.Up (Bx.put fs f)
  | [],_,f=>⟨fun b hb=>by simp at hb,trivial⟩
  | a::r,h,f=>by
    rw [Bx.put]
    split
    · rename_i hl
      refine ⟨fun b hb => ?_,Bx.up_put h.2 f⟩
      rcases Bx.put_mem hb with rfl | hb
      · exact hl
      · exact h.1 b hb
    · split
      · rename_i hl he
        exact ⟨fun b hb=>by rw [← he];exact h.1 b hb,h.2⟩
      · rename_i hl he
        have hfa:Bx.lt f.name a.name=true:=Bx.lt_tri (by simpa using hl) he
        refine ⟨fun b hb => ?_,h⟩
        rcases List.mem_cons.1 hb with rfl | hb
        · exact hfa
        · exact Bx.lt_trans hfa (h.1 b hb)
def Bx.cut : List Bx.Fl→ByteArray→Nat
  | [],_=>0
  | a::r,x=>if Bx.lt a.name x=true then Bx.cut r x+1 else 0
theorem Bx.cut_le : ∀ (fs:List Bx.Fl) (x:ByteArray),Bx.cut fs x≤fs.length
  | [],_=>Nat.le_refl _
  | a::r,x=>by rw [Bx.cut];split <;> simp only [List.length_cons] <;> have:=Bx.cut_le r x <;> omega
theorem Bx.cut_lo : ∀ {fs:List Bx.Fl} {x:ByteArray} (t:Nat) (_:t < Bx.cut fs x) (hl:t < fs.length),Bx.lt fs[t].name x=true
  | a::r,x,0,ht,_=>by
    rw [Bx.cut] at ht;split at ht
    · assumption
    · omega
  | a::r,x,t+1,ht,hl=>by
    rw [Bx.cut] at ht;split at ht
    · exact Bx.cut_lo t (by omega) (by simpa using hl)
    · omega
theorem Bx.cut_hi : ∀ {fs:List Bx.Fl} (_:Bx.Up fs) {x:ByteArray} (t:Nat) (_:Bx.cut fs x≤t) (hl:t < fs.length),Bx.lt fs[t].name x=false
  | a::r,h,x,0,ht,_=>by
    rw [Bx.cut] at ht;split at ht
    · omega
    · rename_i hl;simpa using hl
  | a::r,h,x,t+1,ht,hl=>by
    rw [Bx.cut] at ht;split at ht
    · exact Bx.cut_hi h.2 t (by omega) (by simpa using hl)
    · rename_i hn
      have hn2:Bx.lt a.name x=false:=by simpa using hn
      have hal:Bx.lt a.name (r[t]'(by simpa using hl)).name=true:=h.1 _ (List.getElem_mem _)
      cases hc:Bx.lt (r[t]'(by simpa using hl)).name x with
      | false=>exact hc
      | true=>have:=Bx.lt_trans hal hc;rw [hn2] at this;cases this
theorem Bx.put_names : ∀ {fs:List Bx.Fl} (f:Bx.Fl),(∀ a ∈ fs,a.name≠f.name)→(Bx.put fs f).map Bx.Fl.name=(fs.map Bx.Fl.name).take (Bx.cut fs f.name)++[f.name]++(fs.map Bx.Fl.name).drop (Bx.cut fs f.name)
  | [],f,_=>rfl
  | a::r,f,h=>by
    rw [Bx.put,Bx.cut]
    split
    · simp only [List.map_cons,List.take_succ_cons,List.drop_succ_cons,List.cons_append]
      rw [Bx.put_names f (fun b hb=>h b (List.mem_cons_of_mem _ hb))]
    · rw [if_neg (h a List.mem_cons_self)];rfl
theorem Bx.put_same : ∀ {fs:List Bx.Fl} (_:Bx.Up fs) (f:Bx.Fl),(∃ a ∈ fs,a.name=f.name)→(Bx.put fs f).map Bx.Fl.name=fs.map Bx.Fl.name
  | [],_,f,⟨a,ha,_⟩=>by simp at ha
  | a::r,h,f,⟨b,hb,he⟩=>by
    rw [Bx.put]
    split
    · rename_i hl
      rcases List.mem_cons.1 hb with rfl | hb
      · exact absurd he (Bx.lt_ne hl)
      · rw [List.map_cons,Bx.put_same h.2 f ⟨b,hb,he⟩];rfl
    · split
      · rename_i hl he2
        rw [List.map_cons,List.map_cons,he2]
      · rename_i hl he2
        exfalso
        rcases List.mem_cons.1 hb with rfl | hb
        · exact he2 he
        · have:=h.1 b hb;rw [he] at this;exact hl this
theorem Bx.put_len {fs:List Bx.Fl} (f:Bx.Fl):(Bx.put fs f).length≤fs.length+1:=by
  induction fs with
  | nil=>simp [Bx.put]
  | cons a r ih =>
    rw [Bx.put];split
    · simp only [List.length_cons];omega
    · split <;> simp
theorem Bx.put_end {fs:List Bx.Fl} {f:Bx.Fl} (h:∀ a ∈ fs,Bx.lt a.name f.name=true):Bx.put fs f=fs++[f]:=by
  induction fs with
  | nil=>rfl
  | cons a r ih=>rw [Bx.put,if_pos (h a List.mem_cons_self),ih (fun b hb=>h b (List.mem_cons_of_mem _ hb))];rfl
theorem Bx.build_up (fs:List Bx.Fl) (h:Bx.Up fs) (n:Nat) (hn:n < fs.length):Bx.put (fs.take n) fs[n]=fs.take (n+1):=by
  rw [Bx.put_end]
  · rw [List.take_add_one,List.getElem?_eq_getElem hn];rfl
  · intro a ha
    obtain ⟨i,hi,rfl⟩:=List.getElem_of_mem ha
    rw [List.getElem_take]
    exact Bx.up_get h i n (by simp at hi;omega) hn
theorem Bx.up_take {fs:List Bx.Fl} (h:Bx.Up fs) (n:Nat):Bx.Up (fs.take n) :=
  Bx.up_of fun i j hi hj=>by rw [List.getElem_take,List.getElem_take];exact Bx.up_get h i j hi (by simp at hj;omega)
theorem Bx.search {fs:List Bx.Fl} (h:Bx.Up fs) (x:ByteArray) (Sx:Nat→ByteArray) (hS:∀ t (ht:t < fs.length),Sx t=fs[t].name):Lib.bsGo (fun t=>Op.bytesLess (Sx t).toList x.toList) fs.length 0 fs.length=Bx.cut fs x:=by
  have h1:∀ t,t < Bx.cut fs x→Op.bytesLess (Sx t).toList x.toList=true:=fun t ht=>by
    have hl:t < fs.length:=Nat.lt_of_lt_of_le ht (Bx.cut_le fs x)
    rw [hS t hl];exact Bx.cut_lo t ht hl
  have key:∀ (f lo hi:Nat),hi - lo≤f→lo≤Bx.cut fs x→Bx.cut fs x≤hi→hi≤fs.length→Lib.bsGo (fun t=>Op.bytesLess (Sx t).toList x.toList) f lo hi=Bx.cut fs x:=by
    intro f
    induction f with
    | zero=>intro lo hi hf a b _;simp [Lib.bsGo];omega
    | succ f ih =>
      intro lo hi hf a b c
      unfold Lib.bsGo
      by_cases hh:lo < hi
      · rw [if_pos hh]
        by_cases hm:(lo+hi) / 2 < Bx.cut fs x
        · rw [h1 _ hm,if_pos rfl];exact ih _ _ (by omega) (by omega) b c
        · have hl:(lo+hi) / 2 < fs.length:=by omega
          have:Op.bytesLess (Sx ((lo+hi) / 2)).toList x.toList=false:=by rw [hS _ hl];exact Bx.cut_hi h _ (by omega) hl
          rw [this];exact ih _ _ (by omega) a (by omega) (by omega)
      · rw [if_neg hh];omega
  exact key _ 0 _ (by omega) (Nat.zero_le _) (Bx.cut_le fs x) (Nat.le_refl _)
end Go.Proofs.YtkikhpppkpelfaaGreat
