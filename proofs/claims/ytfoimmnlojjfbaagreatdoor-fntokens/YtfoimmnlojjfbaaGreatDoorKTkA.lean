import Derived.Test.YtfoimmnlojjfbaaGreatDoorKScanG
namespace Go.Proofs.YtfoimmnlojjfbaaGreatDoor
open Go.RowKit
def Tk.gapC (c:UInt8):Prop:=c=32∨c=10∨c=35
def Tk.Off (s:List UInt8):Prop:=s=[]∨∃ c r,s=c::r∧Tk.gapC c
theorem Tk.word_app {w s:List UInt8} (hw:∀ c ∈ w,Mill.isTail c=true) (hs:Tk.Off s):Mill.wordOf (w++s)=w:=by
 unfold Mill.wordOf
 rw [List.takeWhile_append_of_pos hw]
 have:s.takeWhile Mill.isTail=[]:=by
  rcases hs with rfl | ⟨c,r,rfl,hc⟩
  ·rfl
  ·have:Mill.isTail c=false:=by rcases hc with rfl | rfl | rfl <;> decide
   simp [this]
 rw [this,List.append_nil]
theorem Tk.take_tw (p:UInt8→Bool) (l:List UInt8):l.take (l.takeWhile p).length=l.takeWhile p:=by
 induction l with
 | nil=>rfl
 | cons a r ih =>
  by_cases h:p a=true
  ·simp [h,ih]
  ·simp [h]
theorem Tk.tw_all (p:UInt8→Bool) (l:List UInt8):∀ c ∈ l.takeWhile p,p c=true:=by
 induction l with
 | nil=>simp
 | cons a r ih =>
  by_cases h:p a=true
  ·intro c hc
   rw [List.takeWhile_cons_of_pos h] at hc
   rcases List.mem_cons.1 hc with rfl | hc
   ·exact h
   ·exact ih c hc
  ·simp [h]
theorem Tk.unq_split : ∀ (n:Nat) (l acc t r:List UInt8),l.length≤n→Mill.unq l acc=some (t,r)→∃ q,l=q++r∧∀ s,Mill.unq (q++s) acc=some (t,s)
 | _,[],acc,t,r,_,h=>by simp [Mill.unq] at h
 | 0,c::l,acc,t,r,hn,h=>by simp at hn
 | n+1,c::l,acc,t,r,hn,h=>by
  rw [Mill.unq_def] at h
  by_cases h1:c=34
  ·rw [if_pos h1] at h
   simp only [Option.some.injEq,Prod.mk.injEq] at h
   obtain ⟨rfl,rfl⟩:=h
   exact ⟨[c],rfl,fun s=>by subst h1;exact Mill.unq_quote s acc⟩
  ·rw [if_neg h1] at h
   by_cases h2:Mill.isBare c=true
   ·rw [if_pos h2] at h
    obtain ⟨q,e,hq⟩:=Tk.unq_split n l _ t r (by simpa using hn) h
    exact ⟨c::q,by rw [e];rfl,fun s=>by rw [List.cons_append,Mill.unq_bare c _ _ h1 h2];exact hq s⟩
   ·rw [if_neg h2] at h
    by_cases h3:c=92
    ·rw [if_pos h3] at h
     match l,hn,h with
     | [],_,h=>cases h
     | [_],_,h=>cases h
     | a::b::r2,hn,h =>
      simp only at h
      by_cases h4:0≤Mill.hexOf a∧0≤Mill.hexOf b
      ·rw [if_pos h4] at h
       obtain ⟨q,e,hq⟩:=Tk.unq_split n r2 _ t r (by simp at hn;omega) h
       refine ⟨c::a::b::q,by rw [e];rfl,fun s => ?_⟩
       rw [List.cons_append,Mill.unq_def,if_neg h1,if_neg h2,if_pos h3]
       simp only [List.cons_append]
       rw [if_pos h4]
       exact hq s
      ·rw [if_neg h4] at h;cases h
    ·rw [if_neg h3] at h;cases h
theorem Tk.find_congr {L:List (List UInt8)} {f g:List UInt8→Bool} (h:∀ x ∈ L,f x=g x):L.find? f=L.find? g:=by
 induction L with
 | nil=>rfl
 | cons a r ih =>
  rw [List.find?_cons,List.find?_cons,h a List.mem_cons_self,ih (fun x hx=>h x (List.mem_cons_of_mem _ hx))]
theorem Tk.mark_pre {x r m:List UInt8} (h:m.length≤x.length):Mill.markAt (x++r) m=Mill.markAt x m:=by
 unfold Mill.markAt
 rw [List.take_append_of_le_length h]
 have h1:decide (m.length≤(x++r).length)=true:=by simp;omega
 have h2:decide (m.length≤x.length)=true:=by simpa using h
 rw [h1,h2]
theorem Tk.marks_two : ∀ m ∈ Mill.marks,1≤m.length∧m.length≤2:=by decide
theorem Tk.marks_own : ∀ m ∈ Mill.marks,Mill.marks.find? (Mill.markAt m)=some m:=by decide
theorem Tk.marks_gap : ∀ c ∈ ([32,10,35]:List UInt8),∀ m ∈ Mill.marks,Mill.marks.find? (Mill.markAt (m++[c]))=some m:=by decide
theorem Tk.mark_off {m s:List UInt8} (hm:m ∈ Mill.marks) (hs:Tk.Off s):Mill.marks.find? (Mill.markAt (m++s))=some m:=by
 rcases hs with rfl | ⟨c,r,rfl,hc⟩
 ·rw [List.append_nil];exact Tk.marks_own m hm
 ·have e:m++c::r=(m++[c])++r:=by simp
  rw [e,Tk.find_congr (g:=Mill.markAt (m++[c])) (fun x hx=>Tk.mark_pre (by have:=(Tk.marks_two x hx).2;have:=(Tk.marks_two m hm).1;simp;omega))]
  exact Tk.marks_gap c (by rcases hc with rfl | rfl | rfl <;> simp) m hm
theorem Tk.one_off {b:UInt8} {r:List UInt8} (h0:(Mill.one (b::r)).code=0) {s:List UInt8} (hs:Tk.Off s):∃ t,(b::r).take (Mill.one (b::r)).size=b::t∧Mill.one (b::(t++s))=Mill.one (b::r):=by
  have hw:Mill.isTail b=true→∃ t,(b::r).take (Mill.wordOf (b::r)).length=b::t∧Mill.wordOf (b::r)=b::t∧Mill.wordOf (b::(t++s))=b::t:=fun hb=>by
    refine ⟨r.takeWhile Mill.isTail, ?_, ?_, ?_⟩
    · unfold Mill.wordOf;rw [Tk.take_tw,List.takeWhile_cons_of_pos hb]
    · unfold Mill.wordOf;rw [List.takeWhile_cons_of_pos hb]
    · have:=Tk.word_app (w:=b::r.takeWhile Mill.isTail) (s:=s) (fun c hc=>by
        rcases List.mem_cons.1 hc with rfl | hc
        · exact hb
        · exact Tk.tw_all _ _ c hc) hs
      exact this
  by_cases h1:Mill.letter (b.toNat:Int)=true
  · have e:∀ q,Mill.one (b::q)=Mill.nameP (Mill.wordOf (b::q)):=fun q=>by simp only [Mill.one];rw [if_pos h1]
    obtain ⟨t,h3,h4,h5⟩:=hw (by simp [Mill.isTail,Mill.tail,h1])
    rw [e] at h0
    have hz:(Mill.nameP (Mill.wordOf (b::r))).size=(Mill.wordOf (b::r)).length:=by
      unfold Mill.nameP at h0 ⊢
      split
      · rfl
      · split
        · rename_i h6 h7;rw [if_neg h6,if_pos h7] at h0;simp [Mill.bad] at h0
        · rfl
    refine ⟨t,by rw [e,hz];exact h3,by rw [e,e,h5,h4]⟩
  · by_cases h2:Mill.digit (b.toNat:Int)=true
    · have e:∀ q,Mill.one (b::q)=Mill.intP (Mill.wordOf (b::q)):=fun q=>by simp only [Mill.one];rw [if_neg h1,if_pos h2]
      obtain ⟨t,h3,h4,h5⟩:=hw (by simp [Mill.isTail,Mill.tail,h2])
      rw [e] at h0
      have hz:(Mill.intP (Mill.wordOf (b::r))).size=(Mill.wordOf (b::r)).length:=by
        unfold Mill.intP at h0 ⊢
        split
        · rename_i h;rw [h] at h0;simp [Mill.bad] at h0
        · rfl
      refine ⟨t,by rw [e,hz];exact h3,by rw [e,e,h5,h4]⟩
    · by_cases h3:b=34
      · have e:∀ q,Mill.one (b::q)=Mill.textP (b::q):=fun q=>by simp only [Mill.one];rw [if_neg h1,if_neg h2,if_pos h3]
        rw [e] at h0
        cases hu:Mill.unq r [] with
        | none=>unfold Mill.textP at h0;simp [hu,Mill.bad] at h0
        | some x =>
          obtain ⟨t,r2⟩:=x
          obtain ⟨q,hq1,hq2⟩:=Tk.unq_split _ _ _ _ _ (Nat.le_refl _) hu
          have ht:¬ 3000 < t.length:=fun h=>by unfold Mill.textP at h0;simp [hu,h,Mill.bad] at h0
          have f:∀ s,Mill.textP (b::(q++s))=⟨4,t,0,0,q.length+1,0⟩:=fun s=>by
            unfold Mill.textP
            simp only [List.tail_cons,hq2 s,if_neg ht,List.length_cons,List.length_append]
            congr 1;omega
          have fr:Mill.textP (b::r)=⟨4,t,0,0,q.length+1,0⟩:=by rw [hq1];exact f r2
          refine ⟨q, ?_,by rw [e,e,fr];exact f s⟩
          rw [e,fr,hq1]
          simp
      · have e:∀ q,Mill.one (b::q)=Mill.markP (b::q):=fun q=>by simp only [Mill.one];rw [if_neg h1,if_neg h2,if_neg h3]
        rw [e] at h0
        cases hf:Mill.marks.find? (Mill.markAt (b::r)) with
        | none=>unfold Mill.markP at h0;simp [hf,Mill.bad] at h0
        | some m =>
          have hm:=List.mem_of_find?_eq_some hf
          have hq:=List.find?_some hf
          have hp:Mill.markP (b::r)=⟨5,m,0,0,m.length,0⟩:=by unfold Mill.markP;rw [hf]
          have hmt:(b::r).take m.length=m:=by simp [Mill.markAt] at hq;exact hq.2
          obtain ⟨t,rfl⟩:∃ t,m=b::t:=by
            have:=(Tk.marks_two m hm).1
            match m,this,hmt with
            | c::t,_,hmt =>
              simp only [List.length_cons,List.take_succ_cons] at hmt
              injection hmt with h5 _
              exact ⟨t,by rw [h5]⟩
          refine ⟨t,by rw [e,hp];exact hmt, ?_⟩
          rw [e,e,hp]
          have:=Tk.mark_off hm hs
          unfold Mill.markP
          rw [show b::(t++s)=(b::t)++s from rfl,this]
inductive Tk.Sc : List UInt8→Nat→List (Mill.Piece × Nat)→Prop
 | nil (i:Nat):Tk.Sc [] i []
 | gap (b:UInt8) (r:List UInt8) (i:Nat) (ts:List (Mill.Piece × Nat)) (h:b=32∨b=10) (hs:Tk.Sc r (i+1) ts):Tk.Sc (b::r) i ts
 | rem (r:List UInt8) (i:Nat) (ts:List (Mill.Piece × Nat)) (hs:Tk.Sc ((35::r).drop (Mill.rem (35::r))) (i+Mill.rem (35::r)) ts):Tk.Sc (35::r) i ts
 | tok (b:UInt8) (r:List UInt8) (i:Nat) (ts:List (Mill.Piece × Nat)) (h1:¬ (b=32∨b=10)) (h2:b≠35) (h0:(Mill.one (b::r)).code=0) (hs:Tk.Sc ((b::r).drop (Mill.one (b::r)).size) (i+(Mill.one (b::r)).size) ts):Tk.Sc (b::r) i ((Mill.one (b::r),i)::ts)
theorem Tk.rem_pos (r:List UInt8):1≤Mill.rem (35::r):=by
 unfold Mill.rem;rw [List.takeWhile_cons_of_pos (by decide)];simp
theorem Tk.rem_le (l:List UInt8):Mill.rem l≤l.length:=by unfold Mill.rem;exact Mill.tw_le _ _
theorem Tk.Sc.is {l:List UInt8} {i:Nat} {ts:List (Mill.Piece × Nat)} (h:Tk.Sc l i ts):∀ (f:Nat) (acc:List (Mill.Piece × Nat)),l.length < f→Mill.scanL f l i acc=(acc++ts,0,0):=by
 induction h with
 | nil i =>
  intro f acc hf
  match f,hf with
  | f+1,_=>rw [Mill.scanL,List.append_nil]
 | gap b r i ts h hs ih =>
  intro f acc hf
  match f,hf with
  | f+1,hf=>rw [Mill.scanL,if_pos h];exact ih f acc (by simpa using hf)
 | rem r i ts hs ih =>
  intro f acc hf
  match f,hf with
  | f+1,hf =>
   rw [Mill.scanL,if_neg (by decide),if_pos rfl]
   refine ih f acc ?_
   have:=Tk.rem_pos r
   rw [List.length_drop];simp only [List.length_cons] at hf ⊢;omega
 | tok b r i ts h1 h2 h0 hs ih =>
  intro f acc hf
  match f,hf with
  | f+1,hf =>
   rw [Mill.scanL,if_neg h1,if_neg h2,if_neg (by simp [h0])]
   have hz:=(Mill.one_size b r h0).1
   rw [ih f _ (by rw [List.length_drop];simp only [List.length_cons] at hf ⊢;omega)]
   simp
theorem Tk.sc_of : ∀ (f:Nat) (l:List UInt8) (i:Nat) (acc:List (Mill.Piece × Nat)),l.length < f→(∃ c k,Mill.scanL f l i acc=([],c,k)∧c≠0)∨∃ ts,Mill.scanL f l i acc=(acc++ts,0,0)∧Tk.Sc l i ts
 | 0,_,_,_,h=>absurd h (Nat.not_lt_zero _)
 | f+1,[],i,acc,_ => .inr ⟨[],by rw [Mill.scanL,List.append_nil],.nil i⟩
 | f+1,b::r,i,acc,h=>by
  rw [Mill.scanL]
  by_cases h1:b=32∨b=10
  ·rw [if_pos h1]
   rcases Tk.sc_of f r (i+1) acc (by simpa using h) with h2 | ⟨ts,h2,h3⟩
   ·exact .inl h2
   ·exact .inr ⟨ts,h2,.gap b r i ts h1 h3⟩
  ·rw [if_neg h1]
   by_cases h2:b=35
   ·rw [if_pos h2]
    subst h2
    rcases Tk.sc_of f ((35::r).drop (Mill.rem (35::r))) (i+Mill.rem (35::r)) acc (by have:=Tk.rem_pos r;rw [List.length_drop];simp only [List.length_cons] at h ⊢;omega) with h3 | ⟨ts,h3,h4⟩
    ·exact .inl h3
    ·exact .inr ⟨ts,h3,.rem r i ts h4⟩
   ·rw [if_neg h2]
    by_cases h0:(Mill.one (b::r)).code=0
    ·rw [if_neg (by simp [h0])]
     rcases Tk.sc_of f ((b::r).drop (Mill.one (b::r)).size) (i+(Mill.one (b::r)).size) (acc++[(Mill.one (b::r),i)]) (by have:=(Mill.one_size b r h0).1;rw [List.length_drop];simp only [List.length_cons] at h ⊢;omega) with h3 | ⟨ts,h3,h4⟩
     ·exact .inl h3
     ·exact .inr ⟨(Mill.one (b::r),i)::ts,by rw [h3];simp,.tok b r i ts h1 h2 h0 h4⟩
    ·rw [if_pos h0];exact .inl ⟨_,_,rfl,h0⟩
def Tk.Gap (g:List UInt8):Prop := ∀ j,Tk.Sc g j []
theorem Tk.off_of {l:List UInt8} {i:Nat} (h:Tk.Sc l i []):Tk.Off l:=by
 cases h with
 | nil=>exact .inl rfl
 | gap b r _ _ h _=>exact .inr ⟨b,r,rfl,h.elim .inl (fun h => .inr (.inl h))⟩
 | rem r _ _ _=>exact .inr ⟨35,r,rfl,.inr (.inr rfl)⟩
theorem Tk.gap_of {l:List UInt8} {i:Nat} {ts:List (Mill.Piece × Nat)} (h:Tk.Sc l i ts):ts=[]→Tk.Gap l:=by
 induction h with
 | nil=>exact fun _ j => .nil j
 | gap b r i ts h _ ih=>exact fun e j => .gap b r j [] h (ih e _)
 | rem r i ts _ ih=>exact fun e j => .rem r j [] (ih e _)
 | tok=>exact fun e=>by cases e
theorem Tk.rem_app (x s:List UInt8) (hs:s=[]∨∃ r,s=10::r):Mill.rem (x++s)=Mill.rem x:=by
 unfold Mill.rem
 induction x with
 | nil =>
  rcases hs with rfl | ⟨r,rfl⟩
  ·rfl
  ·rw [List.nil_append,List.takeWhile_cons_of_neg (by decide)];rfl
 | cons a r ih =>
  by_cases h:Mill.notNl a=true
  ·rw [List.cons_append,List.takeWhile_cons_of_pos h,List.takeWhile_cons_of_pos h];simp only [List.length_cons,ih]
  ·rw [List.cons_append,List.takeWhile_cons_of_neg h,List.takeWhile_cons_of_neg h]
theorem Tk.gap_app {g:List UInt8} {i:Nat} {t0:List (Mill.Piece × Nat)} (h:Tk.Sc g i t0):t0=[]→∀ (j:Nat) (rest:List UInt8) (ts:List (Mill.Piece × Nat)),Tk.Sc rest (j+g.length+1) ts→Tk.Sc (g++10::rest) j ts:=by
 induction h with
 | nil=>exact fun _ j rest ts hr => .gap 10 rest j ts (.inr rfl) (by simpa using hr)
 | gap b r i t0 h _ ih =>
  exact fun e j rest ts hr => .gap b _ j ts h (ih e (j+1) rest ts (by rw [List.length_cons] at hr;rw [show j+1+r.length+1=j+(r.length+1)+1 by omega];exact hr))
 | rem r i t0 _ ih =>
  intro e j rest ts hr
  have hm:=Tk.rem_app (35::r) (10::rest) (.inr ⟨rest,rfl⟩)
  have hl:=Tk.rem_le (35::r)
  refine .rem (r++10::rest) j ts ?_
  rw [show 35::(r++10::rest)=(35::r)++10::rest from rfl,hm,List.drop_append_of_le_length hl]
  refine ih e _ rest ts ?_
  rw [List.length_drop,show j+Mill.rem (35::r)+((35::r).length - Mill.rem (35::r))+1=j+(35::r).length+1 by omega]
  exact hr
 | tok=>exact fun e=>by cases e
theorem Tk.drop_rem (l:List UInt8):(l.drop (Mill.rem l)=[]∨∃ r,l.drop (Mill.rem l)=10::r):=by
 unfold Mill.rem
 induction l with
 | nil=>exact .inl rfl
 | cons a r ih =>
  by_cases h:Mill.notNl a=true
  ·rw [List.takeWhile_cons_of_pos h,List.length_cons,List.drop_succ_cons];exact ih
  ·rw [List.takeWhile_cons_of_neg h]
   have:a=10:=by simpa [Mill.notNl] using h
   exact .inr ⟨r,by rw [this];rfl⟩
theorem Tk.split {l:List UInt8} {i:Nat} {t0:List (Mill.Piece × Nat)} (h:Tk.Sc l i t0):∀ p a ts,t0=(p,a)::ts→∃ g b r,l=g++b::r∧a=i+g.length∧Tk.Gap g∧¬ (b=32∨b=10)∧b≠35∧Mill.one (b::r)=p∧p.code=0∧Tk.Sc ((b::r).drop p.size) (a+p.size) ts:=by
 induction h with
 | nil=>exact fun _ _ _ e=>by cases e
 | gap b r i t0 h _ ih =>
  intro p a ts e
  obtain ⟨g,b',r',h1,h2,h3,h4⟩:=ih p a ts e
  exact ⟨b::g,b',r',by rw [h1];rfl,by rw [h2,List.length_cons];omega,fun j => .gap b g j [] h (h3 _),h4⟩
 | rem r i t0 _ ih =>
  intro p a ts e
  obtain ⟨g,b',r',h1,h2,h3,h4,h5,h6⟩:=ih p a ts e
  have hl:=Tk.rem_le (35::r)
  have hg:∃ q,g=10::q:=by
   rcases Tk.drop_rem (35::r) with e1 | ⟨q,e1⟩
   ·rw [e1] at h1;simp at h1
   ·rw [e1] at h1
    cases g with
    | nil=>rw [List.nil_append] at h1;injection h1 with h7 _;exact absurd (.inr h7.symm) h4
    | cons c g'=>rw [List.cons_append] at h1;injection h1 with h7 _;exact ⟨g',by rw [h7]⟩
  obtain ⟨q,rfl⟩:=hg
  have hc:(35::r).take (Mill.rem (35::r))=35::r.take (Mill.rem (35::r) - 1):=by
   have:=Tk.rem_pos r
   obtain ⟨k,hk⟩:∃ k,Mill.rem (35::r)=k+1:=⟨_,(Nat.sub_add_cancel this).symm⟩
   rw [hk,List.take_succ_cons,Nat.add_sub_cancel]
  have hcl:((35::r).take (Mill.rem (35::r))).length=Mill.rem (35::r):=by rw [List.length_take];omega
  have hcr:Mill.rem ((35::r).take (Mill.rem (35::r)))=Mill.rem (35::r):=by
   have h8:∀ x:List UInt8,Mill.rem (x.take (Mill.rem x))=Mill.rem x:=fun x=>by
    unfold Mill.rem
    rw [Tk.take_tw]
    have:=Tk.tw_all Mill.notNl x
    have h9:=List.takeWhile_append_of_pos (l₂:=[]) this
    simp only [List.append_nil,List.takeWhile_nil] at h9
    rw [h9]
   exact h8 _
  refine ⟨(35::r).take (Mill.rem (35::r))++10::q,b',r', ?_, ?_,fun j => ?_,h4,h5,h6⟩
  ·rw [List.append_assoc,← h1,List.take_append_drop]
  ·rw [h2,List.length_append,hcl];omega
  ·have hm:=Tk.rem_app ((35::r).take (Mill.rem (35::r))) (10::q) (.inr ⟨q,rfl⟩)
   rw [hcr] at hm
   have h9:(35::r).take (Mill.rem (35::r))++10::q=35::(r.take (Mill.rem (35::r) - 1)++10::q):=by rw [hc];rfl
   have hd:((35::r).take (Mill.rem (35::r))++10::q).drop (Mill.rem (35::r))=10::q:=by
    rw [List.drop_append,hcl,Nat.sub_self,List.drop_of_length_le (by omega)];rfl
   rw [h9] at hm hd ⊢
   refine .rem _ j [] ?_
   rw [hm,hd]
   exact h3 _
 | tok b r i ts0 h1 h2 h0 hs ih =>
  intro p a ts e
  injection e with e1 e2
  injection e1 with e3 e4
  subst e2 e3 e4
  exact ⟨[],b,r,rfl,rfl,fun j => .nil j,h1,h2,rfl,h0,hs⟩
def Tk.next (F:List UInt8):List (Mill.Piece × Nat)→Nat
 | []=>F.length
 | (_,a)::_=>a
def Tk.pc (F:List UInt8) (a:Nat) (ts:List (Mill.Piece × Nat)):List UInt8:=(F.drop a).take (Tk.next F ts - a)
def Tk.Good (F:List UInt8):List (Mill.Piece × Nat)→Prop
 | []=>True
 | (p,a)::ts=>a≤Tk.next F ts∧Tk.next F ts≤F.length∧Tk.Sc (Tk.pc F a ts) 0 [(p,0)]∧(∀ rest j ts2,Tk.Sc rest (j+(Tk.pc F a ts).length+1) ts2→Tk.Sc (Tk.pc F a ts++10::rest) j ((p,j)::ts2))∧Tk.Good F ts
theorem Tk.alone {b:UInt8} {r g:List UInt8} {p:Mill.Piece} (h1:¬ (b=32∨b=10)) (h2:b≠35) (hp:Mill.one (b::r)=p) (h0:p.code=0) (hg:Tk.Gap g) :
  Tk.Sc ((b::r).take p.size++g) 0 [(p,0)]∧∀ rest j ts2,Tk.Sc rest (j+((b::r).take p.size++g).length+1) ts2→Tk.Sc (((b::r).take p.size++g)++10::rest) j ((p,j)::ts2):=by
 subst hp
 have hz:=(Mill.one_size b r h0).2
 have hlen:((b::r).take (Mill.one (b::r)).size).length=(Mill.one (b::r)).size:=by rw [List.length_take];omega
 have hdrop:∀ s,((b::r).take (Mill.one (b::r)).size++s).drop (Mill.one (b::r)).size=s:=fun s=>by
  rw [List.drop_append,hlen,Nat.sub_self,List.drop_of_length_le (by omega)];rfl
 have key:∀ s,Tk.Off s→∀ j ts,Tk.Sc s (j+(Mill.one (b::r)).size) ts→Tk.Sc ((b::r).take (Mill.one (b::r)).size++s) j ((Mill.one (b::r),j)::ts):=fun s hs j ts hsc=>by
  obtain ⟨t,ht,ho⟩:=Tk.one_off h0 hs
  have hd:=hdrop s
  rw [ht] at hd ⊢
  rw [List.cons_append] at hd ⊢
  rw [← ho]
  refine .tok b (t++s) j ts h1 h2 (by rw [ho];exact h0) ?_
  rw [ho,hd]
  exact hsc
 refine ⟨key g (Tk.off_of (hg 0)) 0 [] (hg _),fun rest j ts2 hr => ?_⟩
 rw [List.append_assoc]
 refine key _ ?_ j ts2 (Tk.gap_app (hg 0) rfl _ rest ts2 ?_)
 ·rcases Tk.off_of (hg 0) with rfl | ⟨c,q,rfl,hc⟩
  ·exact .inr ⟨10,rest,rfl,.inr (.inl rfl)⟩
  ·exact .inr ⟨c,q++10::rest,rfl,hc⟩
 ·rw [List.length_append,hlen] at hr
  rw [show j+(Mill.one (b::r)).size+g.length+1=j+((Mill.one (b::r)).size+g.length)+1 by omega]
  exact hr
theorem Tk.good_of (F:List UInt8):∀ (ts:List (Mill.Piece × Nat)) (i:Nat),i≤F.length→Tk.Sc (F.drop i) i ts→Tk.Good F ts
 | [],_,_,_=>trivial
 | (p,a)::ts,i,hi,h=>by
  obtain ⟨g,b,r,h1,h2,h3,h4,h5,h6,h7,h8⟩:=Tk.split h p a ts rfl
  have hl:F.length=a+(b::r).length:=by
   have:=congrArg List.length h1
   rw [List.length_drop,List.length_append] at this
   rw [List.length_cons] at this ⊢;omega
  have hFa:F.drop a=b::r:=by
   rw [h2,← List.drop_drop,h1,List.drop_left]
  have hz:p.size≤(b::r).length:=by rw [← h6] at h7 ⊢;exact (Mill.one_size b r h7).2
  have hFs:F.drop (a+p.size)=(b::r).drop p.size:=by rw [← List.drop_drop,hFa]
  have hrec:=Tk.good_of F ts (a+p.size) (by omega) (by rw [hFs];exact h8)
  cases ts with
  | nil =>
   have hg:Tk.Gap ((b::r).drop p.size):=Tk.gap_of h8 rfl
   have e:Tk.pc F a []=(b::r).take p.size++(b::r).drop p.size:=by
    unfold Tk.pc;rw [hFa,List.take_append_drop,Tk.next,List.take_of_length_le (by omega)]
   obtain ⟨k1,k2⟩:=Tk.alone h4 h5 h6 h7 hg
   refine ⟨by rw [Tk.next];omega,Nat.le_refl _, ?_, ?_,hrec⟩
   ·rw [e];exact k1
   ·rw [e];exact k2
  | cons t ts2 =>
   obtain ⟨p2,a2⟩:=t
   obtain ⟨g2,b2,r2,j1,j2,j3,-⟩:=Tk.split h8 p2 a2 ts2 rfl
   have e:Tk.pc F a ((p2,a2)::ts2)=(b::r).take p.size++g2:=by
    unfold Tk.pc
    rw [hFa,Tk.next,j2,show a+p.size+g2.length - a=p.size+g2.length by omega,List.take_add,j1,List.take_left]
   have hl2:=congrArg List.length j1
   rw [List.length_drop,List.length_append] at hl2
   obtain ⟨k1,k2⟩:=Tk.alone h4 h5 h6 h7 j3
   refine ⟨by rw [Tk.next,j2];omega,by rw [Tk.next,j2];simp only [List.length_cons] at *;omega, ?_, ?_,hrec⟩
   ·rw [e];exact k1
   ·rw [e];exact k2
def Tk.all (F:List UInt8):List (Mill.Piece × Nat)→List UInt8
 | []=>[]
 | (_,a)::ts=>Tk.pc F a ts++10::Tk.all F ts
theorem Tk.again {F:List UInt8}:∀ {ts:List (Mill.Piece × Nat)},Tk.Good F ts→∀ j,∃ ts2,Tk.Sc (Tk.all F ts) j ts2∧ts2.map Prod.fst=ts.map Prod.fst
 | [],_,j=>⟨[],.nil j,rfl⟩
 | (p,a)::ts,h,j=>by
  obtain ⟨ts2,h1,h2⟩:=Tk.again h.2.2.2.2 (j+(Tk.pc F a ts).length+1)
  exact ⟨(p,j)::ts2,h.2.2.2.1 _ j ts2 h1,by rw [List.map_cons,List.map_cons,h2]⟩
def Tk.part (F:List UInt8):Nat→List (Mill.Piece × Nat)→List UInt8
 | 0,_=>[]
 | _+1,[]=>[]
 | k+1,(_,a)::ts=>Tk.pc F a ts++10::Tk.part F k ts
theorem Tk.part_all (F:List UInt8):∀ (ts:List (Mill.Piece × Nat)),Tk.part F ts.length ts=Tk.all F ts
 | []=>rfl
 | (p,a)::ts=>by rw [List.length_cons,Tk.part,Tk.all,Tk.part_all F ts]
theorem Tk.part_next (F:List UInt8):∀ (ts:List (Mill.Piece × Nat)) (k:Nat) (hk:k < ts.length),Tk.part F (k+1) ts=Tk.part F k ts++(Tk.pc F ts[k].2 (ts.drop (k+1))++[10])
 | (p,a)::ts,0,_=>by simp [Tk.part]
 | (p,a)::ts,k+1,hk=>by
  have:=Tk.part_next F ts k (by simpa using hk)
  rw [Tk.part,this,Tk.part]
  simp
theorem Tk.Good.get {F:List UInt8}:∀ {ts:List (Mill.Piece × Nat)},Tk.Good F ts→∀ (k:Nat) (hk:k < ts.length),ts[k].2≤Tk.next F (ts.drop (k+1))∧Tk.next F (ts.drop (k+1))≤F.length∧Tk.Sc (Tk.pc F ts[k].2 (ts.drop (k+1))) 0 [(ts[k].1,0)]
 | (p,a)::ts,h,0,_=>⟨h.1,h.2.1,h.2.2.1⟩
 | (p,a)::ts,h,k+1,hk=>Tk.Good.get h.2.2.2.2 k (by simpa using hk)
theorem Tk.next_is (F:List UInt8) (ts:List (Mill.Piece × Nat)) (k:Nat):Tk.next F (ts.drop (k+1))=if h:k+1 < ts.length then ts[k+1].2 else F.length:=by
 split
 ·rename_i h
  rw [List.drop_eq_getElem_cons h];rfl
 ·rename_i h
  rw [List.drop_of_length_le (by omega)];rfl
theorem Tk.scan_cases (s:ByteArray):(∃ c k,Mill.scan s=([],c,k))∨∃ ts,Mill.scan s=(ts,0,0)∧Tk.Good s.data.toList ts∧s.size≤12000:=by
 unfold Mill.scan
 split
 ·exact .inl ⟨_,_,rfl⟩
 ·rename_i h
  have hl:s.data.toList.length=s.size:=by rw [Array.length_toList];rfl
  rcases Tk.sc_of (s.size+1) s.data.toList 0 [] (by omega) with ⟨c,k,h1,_⟩ | ⟨ts,h1,h2⟩
  ·exact .inl ⟨c,k,h1⟩
  ·exact .inr ⟨ts,by rw [h1,List.nil_append],Tk.good_of _ ts 0 (Nat.zero_le _) h2,by omega⟩
theorem Tk.scan_of {l:List UInt8} {ts:List (Mill.Piece × Nat)} (h:Tk.Sc l 0 ts) (hl:l.length≤12000):Mill.scan (Mill.ba l)=(ts,0,0):=by
 have hz:(Mill.ba l).size=l.length:=by simp [Mill.ba,ByteArray.size]
 unfold Mill.scan
 rw [if_neg (by omega),show (Mill.ba l).data.toList=l by simp [Mill.ba],h.is _ _ (by omega),List.nil_append]
end Go.Proofs.YtfoimmnlojjfbaaGreatDoor
