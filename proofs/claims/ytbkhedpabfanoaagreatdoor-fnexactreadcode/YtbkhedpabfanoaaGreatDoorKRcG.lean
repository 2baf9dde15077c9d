import Derived.Test.YtbkhedpabfanoaaGreatDoorKRcF
import Derived.Test.YtbkhedpabfanoaaGreatDoorKWcG
import Derived.Test.YtbkhedpabfanoaaGreatDoorKCeJ
namespace Go.Proofs.YtbkhedpabfanoaaGreatDoor
open Go.RowKit

theorem Rc.text_nil {t:ByteArray} (h:t.toList.isEmpty=true):t=⟨#[]⟩:=by
  have h1:t.toList=[]:=by simpa using h
  have h2:t.data.toList=[]:=by rw [← ByteArray.toList_eq];exact h1
  exact Rc.ba_eq h2
theorem Rc.inR_of {n a b:Int} (h:Cd.inR n a b=true):a≤n∧n≤b:=by unfold Cd.inR at h;simpa using h
theorem Rc.insOk_fit {c:List Cd.Fn} {f:Cd.Fn} {i:Cd.Ins} (hc:c.length≤60) (hf:f.slots≤200∧f.ins.length≤50000) (hn : -9223372036854775808≤i.n∧i.n≤9223372036854775807) (h:Cd.insOk c f i=true):Rc.insFit i:=by
  obtain ⟨o,a,n,t⟩:=i
  simp only at hn
  unfold Cd.insOk at h
  simp only at h
  by_cases hc1:Cd.inR o 1 16=false∨(Cd.hasA o=false∧a≠0)
  · rw [if_pos hc1] at h;cases h
  rw [if_neg hc1] at h
  have ho:1≤o∧o≤16:=Rc.inR_of (by
    cases hx:Cd.inR o 1 16 with
    | true=>rfl
    | false=>exact absurd (.inl hx) hc1)
  have hA:Cd.hasA o=false→a=0:=fun hx=>by
    by_cases ha:a=0
    · exact ha
    · exact absurd (.inr ⟨hx,ha⟩) hc1
  unfold Rc.insFit
  simp only
  by_cases h1:o=1
  · rw [if_pos h1] at h
    unfold Val.valid at h
    simp only at h
    by_cases a1:a=1
    · rw [if_pos a1,Bool.and_eq_true] at h
      have ht:=Rc.text_nil h.2
      exact ⟨by omega,by omega,hn,by rw [ht];exact Nat.zero_le _,hA,fun e=>absurd h1 e,fun _ e=>by omega,fun _ _=>ht⟩
    · rw [if_neg a1] at h
      by_cases a2:a=2
      · rw [if_pos a2,Bool.and_eq_true,decide_eq_true_eq,decide_eq_true_eq] at h
        exact ⟨by omega,by omega,hn,h.2,hA,fun e=>absurd h1 e,fun _ _=>h.1,fun _ e=>absurd a2 e⟩
      · rw [if_neg a2,Bool.and_eq_true,Bool.and_eq_true] at h
        have ht:=Rc.text_nil h.1.2
        have hi:=h.1.1
        unfold Val.isInt at hi
        have ha:0≤a∧a≤50000:=by simp at hi;omega
        exact ⟨by omega,ha,hn,by rw [ht];exact Nat.zero_le _,hA,fun e=>absurd h1 e,fun _ e=>absurd e a2,fun _ _=>ht⟩
  · rw [if_neg h1] at h
    by_cases h2:n≠0∨t.toList.isEmpty=false
    · rw [if_pos h2] at h;cases h
    rw [if_neg h2] at h
    have hn0:n=0:=by
      by_cases hx:n=0
      · exact hx
      · exact absurd (.inl hx) h2
    have ht:t=⟨#[]⟩:=Rc.text_nil (by
      cases hx:t.toList.isEmpty with
      | true=>rfl
      | false=>exact absurd (.inr hx) h2)
    have ha:0≤a∧a≤50000:=by
      by_cases c1:o=2∨o=3
      · rw [if_pos c1] at h;have:=Rc.inR_of h;omega
      rw [if_neg c1] at h
      by_cases c2:o=5
      · rw [if_pos c2] at h;have:=Rc.inR_of h;omega
      rw [if_neg c2] at h
      by_cases c3:o=6
      · rw [if_pos c3] at h;have:=Rc.inR_of h;omega
      rw [if_neg c3] at h
      by_cases c4:o=7
      · rw [if_pos c4] at h;unfold Cd.isInt at h;simp at h;omega
      rw [if_neg c4] at h
      by_cases c5:o=8
      · rw [if_pos c5] at h;have:=Rc.inR_of h;omega
      rw [if_neg c5] at h
      by_cases c6:o=9
      · rw [if_pos c6] at h;have:=Rc.inR_of h;omega
      rw [if_neg c6] at h
      by_cases c7:o=10∨o=11
      · rw [if_pos c7] at h;have:=Rc.inR_of h;omega
      rw [if_neg c7] at h
      by_cases c8:o=12
      · rw [if_pos c8] at h
        have:a=1∨a=0:=by
          simp only [Bool.or_eq_true,Bool.and_eq_true,decide_eq_true_eq] at h
          rcases h with h | h
          · exact .inl h.1
          · exact .inr h.1
        omega
      have:a=0:=hA (by
        unfold Cd.hasA Cd.inR
        have e1:decide (o=1)=false:=by simp [h1]
        have e2:decide (o=2)=false:=by simp;omega
        have e3:decide (o=3)=false:=by simp;omega
        rw [e1,e2,e3]
        simp
        omega)
      omega
    exact ⟨by omega,ha,hn,by rw [ht];exact Nat.zero_le _,hA,fun _=>⟨hn0,ht⟩,fun e=>absurd e h1,fun e=>absurd e h1⟩
def Rc.wide (c:List Cd.Fn):Prop := ∀ f ∈ c,∀ i ∈ f.ins,-9223372036854775808≤i.n∧i.n≤9223372036854775807
theorem Rc.sound_fit {c:List Cd.Fn} (h:Cd.Sound c) (hw:Rc.wide c):Rc.fit c:=by
  refine ⟨h.len,fun f hf => ?_⟩
  obtain ⟨k,hk,rfl⟩:=List.getElem_of_mem hf
  have h1:=Cd.fnOk_bd (h.fns k hk)
  have h2:=h.fns k hk
  unfold Cd.fnOk Mill.nameOk at h2
  simp only [Bool.and_eq_true,decide_eq_true_eq] at h2
  refine ⟨by omega,h1.2.2.2.2.1,fun t ht => ?_,⟨h1.2.2.2.2.2.2.1,h1.2.2.2.2.2.2.2.1⟩,⟨h1.1,h1.2.1⟩,h1.2.2.1,fun i hi => ?_⟩
  · have:=h1.2.2.2.2.2.2.2.2 t ht;omega
  · obtain ⟨j,hj,rfl⟩:=List.getElem_of_mem hi
    exact Rc.insOk_fit h.len ⟨h1.2.1,h1.2.2.1⟩ (hw _ hf _ hi) (h.ins k hk j hj)
structure Rc.Is (s:ByteArray) (c:List Cd.Fn):Prop where
  ok:∃ r,Cd.Answer c r∧r.1=0
  form:Wc.form c=s.data.toList
  size:s.size≤200000
  wide:Rc.wide c
theorem Rc.Is.fit {s:ByteArray} {c:List Cd.Fn} (h:Rc.Is s c):Rc.fit c:=by
  obtain ⟨r,h1,h2⟩:=h.ok
  exact Rc.sound_fit (h1.sound h2) h.wide
theorem Rc.Is.one {s:ByteArray} {c d:List Cd.Fn} (h:Rc.Is s c) (k:Rc.Is s d):c=d:=Rc.form_one h.fit k.fit (h.form.trans k.form.symm)
theorem Rc.Is.rest {s:ByteArray} {c:List Cd.Fn} (h:Rc.Is s c):s.data.toList.drop 5=Wc.num c.length++(Wc.fns c++[]):=by
  rw [← h.form];simp [Wc.form]
theorem Rc.Is.head {s:ByteArray} {c:List Cd.Fn} (h:Rc.Is s c):s.data.toList.take 5=[109,105,108,108,49]∧6≤s.size:=by
  refine ⟨by rw [← h.form];simp [Wc.form], ?_⟩
  rw [← Rc.ba_len,← h.form]
  obtain ⟨p,b,e,_⟩:=Rc.num_bts c.length
  simp [Wc.form,e]
  omega
structure Rc.En where
  f:Cd.Fn
  p:Value
  i:Value
def Rc.fs (E:List Rc.En):List Cd.Fn:=E.map (fun e=>e.f)
theorem Rc.fs_len (E:List Rc.En):(Rc.fs E).length=E.length:=List.length_map _
theorem Rc.fs_at (E:List Rc.En) (k:Nat) (hk:k < (Rc.fs E).length):(Rc.fs E)[k]=(E[k]'(by rw [Rc.fs_len] at hk;exact hk)).f:=List.getElem_map _
theorem Rc.fs_app (E F:List Rc.En):Rc.fs (E++F)=Rc.fs E++Rc.fs F:=List.map_append
def Rc.enC (e:Rc.En):List Value:=[.string e.f.name,e.p,.int .i64 e.f.result,.int .i64 e.f.slots,e.i]
def Rc.enCs (E:List Rc.En):List Value:=E.flatMap Rc.enC
theorem Rc.enCs_app (a b:List Rc.En):Rc.enCs (a++b)=Rc.enCs a++Rc.enCs b:=List.flatMap_append
structure Rc.Own (A:Nat) (w:World) (v:Value) (E:List Rc.En):Prop where
  row:w.ownsRow A 37 5 v E.length (Rc.enCs E)
  par:∀ e ∈ E,w.ownsRow A 3 1 e.p e.f.params.length (Cd.ints e.f.params)
  ins:∀ e ∈ E,w.ownsRow A 54 4 e.i e.f.ins.length (Rc.insCs e.f.ins)
  apart:E.Pairwise (fun a b=>(∀ k,a.p.ownBlock=some k→b.p.ownBlock≠some k)∧(∀ k,a.i.ownBlock=some k→b.i.ownBlock≠some k))
theorem Rc.Own.keep {A:Nat} {w w':World} {v:Value} {E:List Rc.En} (h:Rc.Own A w v E) (hk:∀ k,A≤k→k < w.heap.size→w'.heap[k]? = w.heap[k]?):Rc.Own A w' v E :=
  ⟨Rc.own_keep h.row (fun k _=>hk k),fun e he=>Rc.own_keep (h.par e he) (fun k _=>hk k),fun e he=>Rc.own_keep (h.ins e he) (fun k _=>hk k),h.apart⟩
theorem Rc.Own.below {A:Nat} {w w':World} {v:Value} {E:List Rc.En} (h:Rc.Own A w v E) (hb:Below w.heap.size w w'):Rc.Own A w' v E:=h.keep (fun k _ hk=>hb.block k hk)
theorem Rc.own_mono {w:World} {A B e size n:Nat} {v:Value} {xs:List Value} (h:w.ownsRow B e size v n xs) (hA:A≤B):w.ownsRow A e size v n xs:=by
  obtain ⟨h1,h2⟩:=h
  refine ⟨h1, ?_⟩
  rcases h2 with h2 | ⟨g,cap,cur,rfl,hB,r⟩
  · exact .inl h2
  · exact .inr ⟨g,cap,cur,rfl,Nat.le_trans hA hB,r⟩
theorem Rc.Own.mono {A B:Nat} {w:World} {v:Value} {E:List Rc.En} (h:Rc.Own B w v E) (hA:A≤B):Rc.Own A w v E:=⟨Rc.own_mono h.row hA,fun e he=>Rc.own_mono (h.par e he) hA,fun e he=>Rc.own_mono (h.ins e he) hA,h.apart⟩
theorem Rc.Own.nil (A:Nat) (w:World):Rc.Own A w (.slice none 0 0) []:=⟨⟨rfl,.inl ⟨rfl,rfl⟩⟩,fun e he=>by simp at he,fun e he=>by simp at he,List.Pairwise.nil⟩
theorem Rc.Own.add {A B:Nat} {U w3:World} {v v':Value} {E:List Rc.En} {f:Cd.Fn} {pv iv:Value} {o:Obj} (h:Rc.Own A U v E) (hp:U.ownsRow B 3 1 pv f.params.length (Cd.ints f.params)) (hi:U.ownsRow B 54 4 iv f.ins.length (Rc.insCs f.ins)) (hAB:A≤B) (hlt:∀ e ∈ E,∀ k,e.p.ownBlock=some k∨e.i.ownBlock=some k→k < B)
    (hn:w3.ownsRow A 37 5 v' (E.length+1) (Rc.enCs E++Rc.enC ⟨f,pv,iv⟩)) (hg:(U.alloc o).grownBy w3 v.ownBlock):Rc.Own A w3 v' (E++[⟨f,pv,iv⟩]):=by
  have hm:∀ e ∈ E++[(⟨f,pv,iv⟩:Rc.En)],e ∈ E∨e=⟨f,pv,iv⟩:=fun e he=>by
    rcases List.mem_append.1 he with h1 | h1
    · exact .inl h1
    · exact .inr (List.mem_singleton.1 h1)
  refine ⟨?_,fun e he => ?_,fun e he => ?_, ?_⟩
  · have e1:Rc.enCs [(⟨f,pv,iv⟩:Rc.En)]=Rc.enC ⟨f,pv,iv⟩:=by simp [Rc.enCs]
    rw [Rc.enCs_app,e1,List.length_append,List.length_singleton];exact hn
  · rcases hm e he with h1 | rfl
    · exact Rc.own_grown h.row (h.par e h1) (by decide) hg
    · exact Rc.own_grown h.row (Rc.own_mono hp hAB) (by decide) hg
  · rcases hm e he with h1 | rfl
    · exact Rc.own_grown h.row (h.ins e h1) (by decide) hg
    · exact Rc.own_grown h.row (Rc.own_mono hi hAB) (by decide) hg
  · refine List.pairwise_append.2 ⟨h.apart,List.pairwise_singleton _ _,fun a ha b hb => ?_⟩
    rw [List.mem_singleton.1 hb]
    refine ⟨fun k h1 h2 => ?_,fun k h1 h2 => ?_⟩
    · have:=hlt a ha k (.inl h1);have:=(Rc.row_type hp h2).1.1;omega
    · have:=hlt a ha k (.inr h1);have:=(Rc.row_type hi h2).1.1;omega
theorem Rc.Own.lt {A:Nat} {w:World} {v:Value} {E:List Rc.En} (h:Rc.Own A w v E):∀ e ∈ E,∀ k,e.p.ownBlock=some k∨e.i.ownBlock=some k→k < w.heap.size:=fun e he k hk=>by
  rcases hk with hk | hk
  · exact (Rc.row_type (h.par e he) hk).1.2
  · exact (Rc.row_type (h.ins e he) hk).1.2
theorem Rc.flat_at {α:Type} (f:α→List Value) (m:Nat) (hm:∀ a,(f a).length=m):∀ (l:List α) (u:Nat) (hu:u < l.length) (j:Nat),j < m→(l.flatMap f)[u * m+j]? = (f l[u])[j]?
  | [],u,hu,_,_=>by simp at hu
  | a::l,0,_,j,hj=>by rw [List.flatMap_cons,Nat.zero_mul,Nat.zero_add,List.getElem?_append_left (by rw [hm];exact hj)];rfl
  | a::l,u+1,hu,j,hj=>by
    rw [List.flatMap_cons,List.getElem?_append_right (by rw [hm,Nat.succ_mul];omega),hm]
    have e:(u+1) * m+j - m=u * m+j:=by rw [Nat.succ_mul];omega
    rw [e,Rc.flat_at f m hm l u (by simpa using hu) j hj];rfl
theorem Rc.own_cells {w:World} {B e size n:Nat} {v:Value} {xs:List Value} (h:w.ownsRow B e size v n xs) {g:Nat} (hg:v.ownBlock=some g) (j:Nat) (u:Value) (hu:xs[j]? = some u):w.cell? ⟨g,j,none⟩=some u:=by
  have h2:=h.cells hg j u hu
  have e1:(⟨g,0,none⟩:Addr).add j=⟨g,j,none⟩:=by
    rcases Nat.eq_zero_or_pos j with rfl | hp
    · rfl
    · simp [Addr.add];omega
  rw [e1] at h2;exact h2
theorem Rc.own_some {w:World} {B e size n:Nat} {v:Value} {xs:List Value} (h:w.ownsRow B e size v n xs) (hn:0 < n):∃ g cap,v = .slice (some ⟨g,0,none⟩) n cap∧v.ownBlock=some g∧g < w.heap.size:=by
  rcases h.2 with ⟨rfl,h0⟩ | ⟨g,cap,cur,rfl,_,hg,_⟩
  · omega
  · exact ⟨g,cap,rfl,rfl,(Array.getElem?_eq_some_iff.1 hg).1⟩
theorem Rc.own_ints {w:World} {B n:Nat} {v:Value} {l:List Int} (h:w.ownsRow B 3 1 v n (Cd.ints l)) (hn:n=l.length):Cd.IntsAt w.heap.size w v l:=by
  subst hn
  obtain ⟨a,cap,rfl⟩:=Cd.rowLen h
  refine ⟨a,cap,rfl,fun i hi => ?_⟩
  obtain ⟨g,c,e1,e2,e3⟩:=Rc.own_some h (by omega)
  injection e1 with e1
  refine ⟨g,0,e1,e3, ?_⟩
  rw [Nat.zero_add]
  exact Rc.own_cells h e2 i _ (by simp [Cd.ints,hi])
theorem Rc.own_inss {w:World} {B n:Nat} {v:Value} {l:List Cd.Ins} (h:w.ownsRow B 54 4 v n (Rc.insCs l)) (hn:n=l.length):Cd.InsAt w.heap.size w v l:=by
  subst hn
  obtain ⟨a,cap,rfl⟩:=Cd.rowLen h
  refine ⟨a,cap,rfl,fun i hi => ?_⟩
  obtain ⟨g,c,e1,e2,e3⟩:=Rc.own_some h (by omega)
  injection e1 with e1
  refine ⟨g,e1,e3,fun j hj => ?_⟩
  have h4:=Rc.flat_at Cd.insC 4 (fun _=>rfl) l i hi j hj
  have h5:(Cd.insC l[i])[j]? = some ((Cd.insC l[i])[j]'(by exact hj)):=List.getElem?_eq_getElem _
  rw [h5]
  exact Rc.own_cells h e2 _ _ (h4.trans h5)
theorem Rc.Own.code {A:Nat} {w:World} {v:Value} {E:List Rc.En} (h:Rc.Own A w v E):Cd.CodeAt w.heap.size w v (Rc.fs E):=by
  obtain ⟨a,cap,rfl⟩:=Cd.rowLen h.row
  refine ⟨a,cap,by rw [Rc.fs_len],fun k hk => ?_⟩
  have hk':k < E.length:=by rw [Rc.fs_len] at hk;exact hk
  obtain ⟨g,c,e1,e2,e3⟩:=Rc.own_some h.row (by omega)
  injection e1 with e1
  rw [Rc.fs_at]
  refine ⟨g,E[k].p,E[k].i,e1,e3,fun j hj => ?_,Rc.own_ints (h.par E[k] (List.getElem_mem hk')) rfl,Rc.own_inss (h.ins E[k] (List.getElem_mem hk')) rfl⟩
  have h4:=Rc.flat_at Rc.enC 5 (fun _=>rfl) E k hk' j hj
  have h5:(Rc.enC E[k])[j]? = some ((Rc.enC E[k])[j]'(by exact hj)):=List.getElem?_eq_getElem _
  have h6:Cd.fnC E[k].f E[k].p E[k].i=Rc.enC E[k]:=rfl
  rw [h6,h5]
  exact Rc.own_cells h.row e2 _ _ (h4.trans h5)
theorem Rc.cell1 {w:World} {g:Nat} {a:Value} {t:TypeId} (h:w.heap[g]? = some (.cells #[a] t)):w.cell? ⟨g,0,none⟩=some a∧w.frozen? ⟨g,0,none⟩=false:=⟨by rw [Lib.cell_of_heap h];rfl,by simp [World.frozen?,h]⟩
end Go.Proofs.YtbkhedpabfanoaaGreatDoor
namespace Go.Proofs.YtbkhedpabfanoaaGreatDoor
open Go.RowKit

def Rc.ReadPost (s:ByteArray) (w:World) (e:Ending) (w':World):Prop :=
  ((∃ E a cap,e = .returned (.tuple #[.agg #[.slice a E.length cap],.bool true])∧Rc.Own w.heap.size w' (.slice a E.length cap) E∧Rc.Is s (Rc.fs E))∨(e = .returned (.tuple #[.agg #[.slice none 0 0],.bool false])∧∀ c,¬ Rc.Is s c))∧Below w.heap.size w w'
structure Rc.RdSt (w:World) (A:Nat) (s:ByteArray) (p:Nat) (bad:Bool) (v:Value) (E:List Rc.En) (U:World):Prop where
  dk:Rc.Dk (A+1) s p bad U
  rb:U.heap[A]? = some (.cells #[.slice none 0 0] 24)
  cb:U.heap[A+2]? = some (.cells #[v] 24)
  own:Rc.Own (A+3) U v E
  bel:Below A w U
  siz:w.heap.size=A
theorem Rc.RdSt.call {w:World} {A:Nat} {s:ByteArray} {p:Nat} {bad:Bool} {v:Value} {E:List Rc.En} {U U':World} (h:Rc.RdSt w A s p bad v E U) {p':Nat} {bad':Bool} (hd:Rc.Dk (A+1) s p' bad' U') (hf:Rc.Fr (fun k=>k=A+1) U U'):Rc.RdSt w A s p' bad' v E U' :=
  ⟨hd,(hf.keep A (Array.getElem?_eq_some_iff.1 h.rb).1 (by omega)).trans h.rb,(hf.keep (A+2) (Array.getElem?_eq_some_iff.1 h.cb).1 (by omega)).trans h.cb,h.own.keep (fun k h1 h2=>hf.keep k h2 (by omega)),h.bel.trans (hf.below (by have:=(Array.getElem?_eq_some_iff.1 h.rb).1;omega) (by omega)),h.siz⟩
theorem Rc.RdSt.drew {w:World} {A:Nat} {s:ByteArray} {p:Nat} {bad:Bool} {v:Value} {E:List Rc.En} {U:World} (h:Rc.RdSt w A s p bad v E U):Rc.RdSt w A s p bad v E U.drew:=h.call (U':=U.drew) h.dk ⟨rfl,rfl,rfl,Nat.le_refl _,fun _ _ _=>rfl⟩
theorem Rc.RdSt.base {w:World} {A:Nat} {s:ByteArray} {p:Nat} {bad:Bool} {v:Value} {E:List Rc.En} {U w3:World} {o:Obj} (h:Rc.RdSt w A s p bad v E U) (hg:(U.alloc o).grownBy w3 v.ownBlock):Rc.Dk (A+1) s p bad w3∧w3.heap[A]? = some (.cells #[.slice none 0 0] 24)∧w3.heap[A+2]? = some (.cells #[v] 24)∧Below A w w3:=by
  have hA:=(Array.getElem?_eq_some_iff.1 h.rb).1
  have hlo:∀ k,k < A+3→some k≠v.ownBlock:=fun k hk e=>by have:=(Rc.row_type h.own.row e.symm).1.1;omega
  exact ⟨h.dk.keep (Rc.grown_keep hg h.dk.lt (hlo _ (by omega))),(Rc.grown_keep hg hA (hlo _ (by omega))).trans h.rb,(Rc.grown_keep hg (Array.getElem?_eq_some_iff.1 h.cb).1 (hlo _ (by omega))).trans h.cb,
    ⟨hg.os.trans h.bel.os,hg.tape.trans h.bel.tape,hg.output.trans h.bel.output,Nat.le_trans h.bel.size (Nat.le_trans (by simp) hg.size),fun k hk=>(Rc.grown_keep hg (by omega) (hlo k (by omega))).trans (h.bel.block k hk)⟩⟩
theorem Rc.RdSt.add {w:World} {A:Nat} {s:ByteArray} {p:Nat} {bad:Bool} {v:Value} {E:List Rc.En} {U w3:World} {o:Obj} {B:Nat} {f:Cd.Fn} {pv iv v':Value} (h:Rc.RdSt w A s p bad v E U) (hp:U.ownsRow B 3 1 pv f.params.length (Cd.ints f.params)) (hi:U.ownsRow B 54 4 iv f.ins.length (Rc.insCs f.ins)) (hAB:A+3≤B) (hlt:∀ e ∈ E,∀ k,e.p.ownBlock=some k∨e.i.ownBlock=some k→k < B)
    (hn:w3.ownsRow (A+3) 37 5 v' (E.length+1) (Rc.enCs E++Rc.enC ⟨f,pv,iv⟩)) (hg:(U.alloc o).grownBy w3 v.ownBlock):Rc.RdSt w A s p bad v' (E++[⟨f,pv,iv⟩]) (w3.setCell ⟨A+2,0,none⟩ v'):=by
  obtain ⟨h1,h2,h3,h4⟩:=h.base hg
  exact ⟨h1.keep (Rc.set_oth (by omega)),(Rc.set_oth (by omega)).trans h2,by rw [Rc.set_same h3];rfl,(h.own.add hp hi hAB hlt hn hg).keep (fun k hk _=>Rc.set_oth (by omega)),h4.trans ⟨rfl,rfl,rfl,by simp [World.setCell],fun k hk=>Rc.set_oth (by omega)⟩,h.siz⟩
theorem Rc.RdSt.ret {w:World} {A:Nat} {s:ByteArray} {p:Nat} {bad:Bool} {v:Value} {E:List Rc.En} {U:World} (h:Rc.RdSt w A s p bad v E U) (x:Value):∃ U',U.setCell ⟨A,0,none⟩ x=U'∧U'.cell? ⟨A,0,none⟩=some x∧Below A w U'∧Rc.Own (A+3) U' v E:=by
  have h1:=Rc.set_same (i:=0) (v:=x) h.rb
  exact ⟨_,rfl,(Rc.cell1 (a:=x) h1).1,h.bel.trans ⟨rfl,rfl,rfl,by simp [World.setCell],fun k hk=>Rc.set_oth (by omega)⟩,h.own.keep (fun k hk _=>Rc.set_oth (by omega))⟩
theorem Rc.infoFn : (Tryz.prog.info? 37).map (fun i=>(i.zero,i.size,i.bytes))=some (some (.agg #[.string ⟨#[]⟩,.slice none 0 0,.int .i64 0,.int .i64 0,.slice none 0 0]),5,80):=by kernel_rfl
theorem Rc.head_ne {s:ByteArray} (h:(!(s.extract 0 5).toList == [109,105,108,108,49])=true) (c:List Cd.Fn):¬ Rc.Is s c:=fun hi=>by
  have e:(s.extract 0 5).toList=[109,105,108,108,49]:=by rw [ByteArray.toList_eq,Rc.ext_list];exact hi.head.1
  rw [e] at h;exact absurd h (by decide)
def Rc.fnsIn (E:List Rc.En):Prop := ∀ e ∈ E,Rc.fnIn e.f
theorem Rc.fnsIn.wide {E:List Rc.En} (h:Rc.fnsIn E):Rc.wide (Rc.fs E):=fun f hf i hi=>by
  obtain ⟨e,he,rfl⟩:=List.mem_map.1 hf
  exact ((h e he).2.2.2 i hi).2.2.1
theorem Rc.fnsIn.lens {E:List Rc.En} (h:Rc.fnsIn E) (k:Nat) (hk:k < (Rc.fs E).length):(Rc.fs E)[k].params.length≤1048576∧(Rc.fs E)[k].ins.length≤1048576∧(Rc.fs E)[k].name.size≤1048576:=by
  rw [Rc.fs_at]
  obtain ⟨h1,h2,h3,_⟩:=h _ (List.getElem_mem (by rw [Rc.fs_len] at hk;exact hk))
  exact ⟨by omega,by omega,by omega⟩
theorem Rc.out_is {s:ByteArray} {c:List Cd.Fn} {r:Int × Int × Int} (h6:6≤s.size) (hs:s.size≤200000) (hw:Rc.wide c) (ha:Cd.Answer c r) (h:Wc.out c r=s):Rc.Is s c:=by
  unfold Wc.out at h
  by_cases hc:r.1=0∧(Wc.form c).length≤200000
  · rw [if_pos hc] at h
    exact ⟨⟨r,ha,hc.1⟩,by rw [← h],hs,hw⟩
  · rw [if_neg hc] at h
    rw [← h] at h6
    exact absurd h6 (by decide)
theorem Rc.is_out {s:ByteArray} {c:List Cd.Fn} {r:Int × Int × Int} (h:Rc.Is s c) (ha:Cd.Answer c r):Wc.out c r=s:=by
  obtain ⟨q,h1,h2⟩:=h.ok
  have e:=ha.one h1
  subst e
  have hl:(Wc.form c).length≤200000:=by rw [h.form,Rc.ba_len];exact h.size
  rw [Wc.out_fine h2 hl]
  exact Rc.ba_eq (by rw [h.form])
set_option maxRecDepth 100000 in
set_option maxHeartbeats 1000000 in
theorem Rc.specRead_any (s:ByteArray) (w:World) (hs:s.size≤1048576) :
    Calls Tryz.prog 4 #[.string s] w (Rc.ReadPost s w):=by
  have hb1:∀ o,Below w.heap.size w (w.alloc o):=fun o=>Wc.b1 w o
  by_cases h6:s.size < 6
  · have h6I:(s.size:Int) < 6:=by omega
    go_enter Tryz.func4,Tryz.ntmps4
    go_wp2_with fail
    exact bodyPost_ret (v:=.tuple #[.agg #[.slice none 0 0],.bool false]) (by simp [results,Tryz.results4,go_sem]) rfl ⟨.inr ⟨rfl,fun c hc=>by have:=hc.head.2;omega⟩,hb1 _⟩
  have h6I:¬ (s.size:Int) < 6:=by omega
  by_cases h7:200000 < s.size
  · have h7I:(200000:Int) < (s.size:Int):=by omega
    go_enter Tryz.func4,Tryz.ntmps4
    go_wp2_with fail
    exact bodyPost_ret (v:=.tuple #[.agg #[.slice none 0 0],.bool false]) (by simp [results,Tryz.results4,go_sem]) rfl ⟨.inr ⟨rfl,fun c hc=>by have:=hc.size;omega⟩,hb1 _⟩
  have h7I:¬ (200000:Int) < (s.size:Int):=by omega
  have h5:(5:Int)≤(s.size:Int):=by omega
  go_enter Tryz.func4,Tryz.ntmps4
  go_wp2_with fail
  · have hh:(!(s.extract 0 5).toList == [109,105,108,108,49])=true:=by assumption
    exact bodyPost_ret (v:=.tuple #[.agg #[.slice none 0 0],.bool false]) (by simp [results,Tryz.results4,go_sem]) rfl ⟨.inr ⟨rfl,Rc.head_ne hh⟩,hb1 _⟩
  · obtain ⟨A,HA⟩:∃ A,Hid (w.heap.size=A):=⟨_,(rfl:w.heap.size=_)⟩
    obtain ⟨V,hV⟩:∃ V,((w.alloc (.cells #[.slice none 0 0] 24)).alloc (.cells #[.string s,.int .i64 5,.bool false] 32)).alloc (.cells #[.slice none 0 0] 24)=V:=⟨_,rfl⟩
    have HST:Hid (Rc.RdSt w A s 5 false (.slice none 0 0) [] V):=by
      have e1:=MapKept.heap_alloc w (.cells #[.slice none 0 0] 24)
      have e2:=MapKept.heap_alloc (w.alloc (.cells #[.slice none 0 0] 24)) (.cells #[.string s,.int .i64 5,.bool false] 32)
      have e3:=MapKept.heap_alloc ((w.alloc (.cells #[.slice none 0 0] 24)).alloc (.cells #[.string s,.int .i64 5,.bool false] 32)) (.cells #[.slice none 0 0] 24)
      rw [hV] at e3
      simp only [World.size_alloc,HA.out] at e1 e2 e3
      refine ⟨(e3.2 (A+1) (by omega)).trans e2.1,((e3.2 A (by omega)).trans (e2.2 A (by omega))).trans e1.1,e3.1,Rc.Own.nil _ _, ?_,HA.out⟩
      rw [← hV,← HA.out]
      exact Cd.b3 w _ _ _
    rw [hV,HA.out]
    have HI0:Hid (∀ c,Rc.Is s c→s.data.toList.drop 5=Wc.num c.length++(Wc.fns c++[])):=fun c hc=>hc.rest
    clear hV hb1
    refine (Rc.small_any 60 (A+1) s 5 false (by omega) hs (by omega) V HST.out.dk).mono ?_
    rintro e w2 ⟨n,p2,b2,rfl,hn,hD2,⟨⟨h3,h4⟩,h8⟩,hF2⟩
    have HST2:Hid (Rc.RdSt w A s p2 b2 (.slice none 0 0) [] w2):=HST.out.call hD2 hF2
    have HI2:Hid (∀ c,Rc.Is s c→b2=false∧Rc.L Wc.fn c [] n [] (s.data.toList.drop p2)):=fun c hc=>by
      obtain ⟨e4,e5,-,e6⟩:=h8 _ _ hc.fit.1 rfl (HI0.out c hc)
      exact ⟨e5,by rw [e4];exact Rc.L.start e6⟩
    clear h8 hD2 hF2 HST HI0
    obtain ⟨j0,hj0,hy0,hy1,hy2⟩:=info_parts Rc.infoFn
    go_wp2_with fail
    go_loopw [6] (fun t wr => ∃ (k q:Nat) (b:Bool) (E:List Rc.En) (ea:Option Addr) (ec:Nat),k+E.length≤60∧t = .int .i64 (k:Int)∧q≤s.size∧Rc.fnsIn E∧Rc.RdSt w A s q b (.slice ea E.length ec) E wr∧∀ c,Rc.Is s c→b=false∧Rc.L Wc.fn c (Rc.fs E) k [] (s.data.toList.drop q)) (fun t _=>(intOf t).toNat)
    case atStart=>exact ⟨n,p2,b2,[],none,0,by simp;omega,rfl,h4,fun e he=>by simp at he,HST2.out,HI2.out⟩
    case round =>
      obtain ⟨k,q,b,E,ea,ec,hk,rfl,hq,hin,hST,hIF⟩:=hrel
      have HST3:Hid (Rc.RdSt w A s q b (.slice ea E.length ec) E wr):=hST
      have HI3:Hid (∀ c,Rc.Is s c→b=false∧Rc.L Wc.fn c (Rc.fs E) k [] (s.data.toList.drop q)):=hIF
      have HIN:Hid (Rc.fnsIn E):=hin
      obtain ⟨⟨c0,c1,c2⟩,-⟩:=hST.dk.cells
      clear hST hIF HST2 HI2 hin
      obtain ⟨x0,y0⟩:=Rc.cell1 HST3.out.cb
      obtain ⟨r0,g0⟩:=Rc.cell1 HST3.out.rb
      by_cases hgo:0 < k∧b=false
      · obtain ⟨hk0,rfl⟩:=hgo
        have hk0I:(0:Int) < (k:Int):=by omega
        obtain ⟨k',HKK⟩:∃ k',Hid (k=k'+1):=⟨k - 1,(by omega:k=k - 1+1)⟩
        have hkw:(k:Int) - 1=(k':Int):=by have:=HKK.out;omega
        go_wp2_with fail
        go_region_law (first
          | (go_simp;go_at_call 10;refine (Rc.fn_any (A+1) s q false hs hq wr.drew HST3.out.dk).mono ?_;rintro e w4 ⟨⟨fn,fp,fr,fs,fi⟩,pv,iv,p4,b4,rfl,hii,hpo,hio,hD4,⟨⟨h6,h7⟩,h8⟩,hF4⟩;obtain ⟨pa,pc,hpv⟩:=Cd.rowLen hpo;obtain ⟨ia,ic,hiv⟩:=Cd.rowLen hio;subst hpv;subst hiv;have HST4:Hid (Rc.RdSt w A s p4 b4 (.slice ea E.length ec) E w4):=HST3.out.drew.call hD4 hF4;have z1:=(Rc.cell1 HST4.out.cb).1;have z2:(w4.alloc (.cells #[.string fn,.slice pa fp.length pc,.int .i64 fr,.int .i64 fs,.slice ia fi.length ic] 37)).cell? ⟨A+2,0,none⟩=some (.slice ea E.length ec):=(by rw [World.cell?_alloc_lt _ _ ⟨A+2,0,none⟩ (World.block_lt_of_cell? _ _ z1)];exact z1);unfold Cd.fnV;(try simp only))
          | (refine Rc.step_append_at rfl (.tmp 39) (.tmp 42) 22 rfl (A+3) 37 j0 (.agg #[.string ⟨#[]⟩,.slice none 0 0,.int .i64 0,.int .i64 0,.slice none 0 0]) 5 80 Tryz.underlying22 hj0 hy0 hy1 hy2 rfl (by decide) (.slice ea E.length ec) E.length (Rc.enCs E) rfl (HST4.out.own.row.alloc _) ⟨w4.heap.size,0,none⟩ 1 1 [.string fn,.slice pa fp.length pc,.int .i64 fr,.int .i64 fs,.slice ia fi.length ic] rfl rfl (Rc.cells_new _ [.string fn,.slice pa fp.length pc,.int .i64 fr,.int .i64 fs,.slice ia fi.length ic] _) (fun x hx=>by simp at hx;rcases hx with rfl | rfl | rfl | rfl | rfl <;> rfl) (by unfold maxLen;omega) (by omega) (by have:=(Array.getElem?_eq_some_iff.1 HST4.out.cb).1;simp;omega) ?_;intro v' w5 hown' hg5;obtain ⟨a5,c5,hv5⟩:=Cd.rowLen hown';subst hv5;obtain ⟨u1,u2⟩:=Rc.cell1 (HST4.out.base hg5).2.2.1))
        all_goals
          have HST5:Hid (Rc.RdSt w A s p4 b4 (.slice a5 (E.length+1) c5) (E++[⟨⟨fn,fp,fr,fs,fi⟩,.slice pa fp.length pc,.slice ia fi.length ic⟩]) (w5.setCell ⟨A+2,0,none⟩ (.slice a5 (E.length+1) c5))):=HST4.out.add hpo hio (by have:=(Array.getElem?_eq_some_iff.1 HST3.out.cb).1;exact this) HST3.out.own.lt hown' hg5
          have HI5:Hid (∀ c,Rc.Is s c→b4=false∧Rc.L Wc.fn c (Rc.fs (E++[⟨⟨fn,fp,fr,fs,fi⟩,.slice pa fp.length pc,.slice ia fi.length ic⟩])) k' [] (s.data.toList.drop p4)):=fun c hc=>by
            obtain ⟨e2,e3⟩:=HI3.out c hc
            rw [HKK.out] at e3
            obtain ⟨x,cur',e4,e5,e6⟩:=e3.step
            obtain ⟨e7,e8,-,e9⟩:=h8 x cur' (hc.fit.2 x e4) rfl e5
            rw [← e7,← e9] at e6
            exact ⟨e8,by rw [Rc.fs_app];exact e6⟩
          have HIN5:Hid (Rc.fnsIn (E++[⟨⟨fn,fp,fr,fs,fi⟩,.slice pa fp.length pc,.slice ia fi.length ic⟩])):=fun e he=>by
            rcases List.mem_append.1 he with h | h
            · exact HIN.out e h
            · rw [List.mem_singleton.1 h];exact hii
          have hk1:k'+(E++[(⟨⟨fn,fp,fr,fs,fi⟩,.slice pa fp.length pc,.slice ia fi.length ic⟩:Rc.En)]).length≤60:=by have:=HKK.out;simp;omega
          clear HST3 HI3 HST4 hown' hg5 u1 u2 z1 z2 h8 hF4 hD4 x0 y0 r0 g0 c0 c1 c2 HIN hii hpo hio
          go_wp2_with fail
          go_roundw
          case rel=>exact ⟨k',p4,b4,_,a5,c5,hk1,by rw [← hkw],h7,HIN5.out,by rw [List.length_append,List.length_singleton];exact HST5.out,HI5.out⟩
          case measure=>have:=HKK.out;simp [intOf];omega
      · have HFN:Hid (∀ c,Rc.Is s c→b=false∧Rc.fs E=c):=fun c hc=>by
          obtain ⟨e2,e3⟩:=HI3.out c hc
          rcases Nat.eq_zero_or_pos k with h | h
          · rw [h] at e3;exact ⟨e2,e3.done.1⟩
          · exact absurd ⟨h,e2⟩ hgo
        have hEl:E.length≤60:=by omega
        clear HI3
        cases b with
        | true =>
          have HNO:Hid (∀ c,¬ Rc.Is s c):=fun c hc=>by cases (HFN.out c hc).1
          clear HFN
          by_cases hk0:0 < k
          all_goals first | (have hk0I:(0:Int) < (k:Int):=(by omega)) | (have hk0I:¬ (0:Int) < (k:Int):=(by omega))
          all_goals
            go_wp2_with fail
            obtain ⟨U,hU,d0,hbU,-⟩:=HST3.out.ret (.slice none 0 0)
            rw [hU]
            clear hU x0 y0 r0 g0 c0 c1 c2
            exact bodyPost_ret (v:=.tuple #[.agg #[.slice none 0 0],.bool false]) (by simp [results,Tryz.results4,go_sem,d0]) rfl ⟨.inr ⟨rfl,HNO.out⟩,by rw [HA.out];exact hbU⟩
        | false =>
          have hk0:¬ 0 < k:=fun h=>hgo ⟨h,rfl⟩
          have hk0I:¬ (0:Int) < (k:Int):=by omega
          go_wp2_with fail
          have HW:Calls Tryz.prog 11 #[.agg #[.slice ea E.length ec]] wr (Wc.WrPost (Rc.fs E) wr):=by
            have h:=Wc.specWrite_any (Rc.fs E) ea ec (by rw [Rc.fs_len];omega) HIN.out.lens wr (by rw [Rc.fs_len];exact HST3.out.own.code)
            rw [Rc.fs_len] at h
            exact h
          refine HW.mono ?_
          rintro e w4 ⟨⟨r,rfl,hans⟩,hb4⟩
          have HST4:Hid (Rc.RdSt w A s q false (.slice ea E.length ec) E w4):=HST3.out.call (HST3.out.dk.below hb4) (Rc.Fr.of_below hb4)
          obtain ⟨t,HT⟩:∃ t,Hid (Wc.out (Rc.fs E) r=t):=⟨_,(rfl:Wc.out (Rc.fs E) r=_)⟩
          rw [HT.out]
          clear x0 y0 r0 g0 c0 c1 c2
          obtain ⟨x0,y0⟩:=Rc.cell1 HST4.out.cb
          obtain ⟨r0,g0⟩:=Rc.cell1 HST4.out.rb
          by_cases hts:t=s
          · have HIS:Hid (Rc.Is s (Rc.fs E)):=Rc.out_is (by omega) (by omega) HIN.out.wide hans (HT.out.trans hts)
            have htb:(t.toList == s.toList)=true:=by rw [hts];simp
            clear hts HT hans hb4 HST3 HFN
            go_wp2_with fail
            obtain ⟨U,hU,d0,hbU,hoU⟩:=HST4.out.ret (.slice ea E.length ec)
            rw [hU]
            clear hU x0 y0 r0 g0
            exact bodyPost_ret (v:=.tuple #[.agg #[.slice ea E.length ec],.bool true]) (by simp [results,Tryz.results4,go_sem,d0]) rfl ⟨.inl ⟨E,ea,ec,rfl,by rw [HA.out];exact hoU.mono (by omega),HIS.out⟩,by rw [HA.out];exact hbU⟩
          · have HNO:Hid (∀ c,¬ Rc.Is s c):=fun c hc=>by
              have e:=(HFN.out c hc).2
              rw [e] at hans HT
              exact hts (HT.out.symm.trans (Rc.is_out hc hans))
            have htb:(t.toList == s.toList)=false:=by
              rw [beq_eq_false_iff_ne];intro h;apply hts;rw [ByteArray.toList_eq,ByteArray.toList_eq] at h;exact Rc.ba_eq h
            clear hts HT hans hb4 HST3 HFN
            go_wp2_with fail
            obtain ⟨U,hU,d0,hbU,-⟩:=HST4.out.ret (.slice none 0 0)
            rw [hU]
            clear hU x0 y0 r0 g0
            exact bodyPost_ret (v:=.tuple #[.agg #[.slice none 0 0],.bool false]) (by simp [results,Tryz.results4,go_sem,d0]) rfl ⟨.inr ⟨rfl,HNO.out⟩,by rw [HA.out];exact hbU⟩
end Go.Proofs.YtbkhedpabfanoaaGreatDoor
