import Derived.Test.YtbkhedpabfanoaaGreatDoorKWcB
import Derived.Test.YtbkhedpabfanoaaGreatDoorKCdA
import Derived.Deep.RegionHeld3
import Derived.BigQuiet
namespace Go.Proofs.YtbkhedpabfanoaaGreatDoor
def Rc.val : List UInt8→Nat
  | []=>0
  | b::t=>b.toNat % 128+128 * Rc.val t
theorem Rc.val_app : ∀ (p q:List UInt8),Rc.val (p++q)=Rc.val p+128 ^ p.length * Rc.val q
  | [],q=>by simp [Rc.val]
  | b::t,q=>by
    rw [List.cons_append,Rc.val,Rc.val,Rc.val_app t q,List.length_cons,Nat.pow_succ,Nat.mul_add,Nat.mul_comm (128 ^ t.length) 128,Nat.mul_assoc]
    omega
theorem Rc.val_lt : ∀ p:List UInt8,Rc.val p < 128 ^ p.length
  | []=>by simp [Rc.val]
  | b::t=>by
    have:=Rc.val_lt t
    rw [Rc.val,List.length_cons,Nat.pow_succ]
    omega
structure Rc.Bts (p:List UInt8) (b:UInt8):Prop where
  hi:∀ x ∈ p,128≤x.toNat
  lo:b.toNat < 128
  nz:p=[]∨b.toNat≠0
theorem Rc.num_bts (n:Nat):∃ p b,Wc.num n=p++[b]∧Rc.Bts p b∧Rc.val (p++[b])=n:=by
  induction n using Nat.strongRecOn with
  | _ n ih =>
    by_cases h:n < 128
    · refine ⟨[],UInt8.ofNat n,by rw [Wc.num_small h];rfl,⟨fun x hx=>by simp at hx, ?_,.inl rfl⟩, ?_⟩
      · rw [UInt8.toNat_ofNat',Nat.mod_eq_of_lt (by omega)];exact h
      · simp only [List.nil_append,Rc.val,UInt8.toNat_ofNat'];omega
    · obtain ⟨p,b,h1,h2,h3⟩:=ih (n / 128) (by omega)
      refine ⟨UInt8.ofNat (n % 128+128)::p,b,by rw [Wc.num_big h,h1];rfl,⟨fun x hx => ?_,h2.lo,.inr ?_⟩, ?_⟩
      · rcases List.mem_cons.1 hx with rfl | hx
        · rw [UInt8.toNat_ofNat',Nat.mod_eq_of_lt (by omega)];omega
        · exact h2.hi x hx
      · rcases h2.nz with rfl | hz
        · simp only [List.nil_append,Rc.val] at h3
          have:=h2.lo
          omega
        · exact hz
      · rw [List.cons_append,Rc.val,h3,UInt8.toNat_ofNat'];omega
theorem Rc.num_of : ∀ (p:List UInt8) (b:UInt8),Rc.Bts p b→Wc.num (Rc.val (p++[b]))=p++[b]
  | [],b,h=>by
    have hl:=h.lo
    have e:Rc.val ([]++[b])=b.toNat:=by simp only [List.nil_append,Rc.val];omega
    rw [e,Wc.num_small hl];simp
  | x::t,b,h=>by
    have hx:128≤x.toNat:=h.hi x (by simp)
    have hx2:=x.toNat_lt
    have hb:b.toNat≠0:=by
      rcases h.nz with e | e
      · cases e
      · exact e
    have ht:Rc.Bts t b:=⟨fun y hy=>h.hi y (by simp [hy]),h.lo,.inr hb⟩
    have ih:=Rc.num_of t b ht
    have hv:0 < Rc.val (t++[b]):=by
      rw [Rc.val_app]
      have:0 < 128 ^ t.length:=Nat.pow_pos (by omega)
      have h2:0 < Rc.val [b]:=by simp only [Rc.val];have:=h.lo;omega
      have:=Nat.mul_pos this h2
      omega
    rw [List.cons_append,Rc.val,Wc.num_big (by omega)]
    have e1:(x.toNat % 128+128 * Rc.val (t++[b])) / 128=Rc.val (t++[b]):=by omega
    have e2:(x.toNat % 128+128 * Rc.val (t++[b])) % 128+128=x.toNat:=by omega
    rw [e1,e2,ih];simp
theorem Rc.bts_one : ∀ {p q:List UInt8} {b c:UInt8} {r s:List UInt8},Rc.Bts p b→Rc.Bts q c→p++b::r=q++c::s→p=q∧b=c∧r=s
  | [],[],b,c,r,s,_,_,h=>by simp at h;exact ⟨rfl,h.1,h.2⟩
  | [],y::q,b,c,r,s,hp,hq,h=>by
    simp at h
    have h1:=hq.hi y (by simp)
    have h2:=hp.lo
    rw [h.1] at h2
    omega
  | x::p,[],b,c,r,s,hp,hq,h=>by
    simp at h
    have h1:=hp.hi x (by simp)
    have h2:=hq.lo
    rw [← h.1] at h2
    omega
  | x::p,y::q,b,c,r,s,hp,hq,h=>by
    simp only [List.cons_append,List.cons.injEq] at h
    have hp':Rc.Bts p b:=⟨fun z hz=>hp.hi z (by simp [hz]),hp.lo,.inr (by rcases hp.nz with e | e;cases e;exact e)⟩
    have hq':Rc.Bts q c:=⟨fun z hz=>hq.hi z (by simp [hz]),hq.lo,.inr (by rcases hq.nz with e | e;cases e;exact e)⟩
    obtain ⟨h1,h2,h3⟩:=Rc.bts_one hp' hq' h.2
    exact ⟨by rw [h.1,h1],h2,h3⟩
theorem Rc.num_one {n m:Nat} {r s:List UInt8} (h:Wc.num n++r=Wc.num m++s):n=m∧r=s:=by
  obtain ⟨p,b,e1,h1,v1⟩:=Rc.num_bts n
  obtain ⟨q,c,e2,h2,v2⟩:=Rc.num_bts m
  rw [e1,e2,List.append_assoc,List.append_assoc] at h
  obtain ⟨rfl,rfl,rfl⟩:=Rc.bts_one h1 h2 h
  exact ⟨v1.symm.trans v2,rfl⟩
theorem Rc.bts_64 {p:List UInt8} {b:UInt8} (h:Rc.Bts p b) (hl:Rc.val (p++[b]) < 18446744073709551616):p.length≤9∧(p.length=9→b.toNat≤1):=by
  have hv:Rc.val (p++[b])=Rc.val p+128 ^ p.length * b.toNat:=by
    rw [Rc.val_app];simp only [Rc.val];have:=h.lo;rw [Nat.mod_eq_of_lt this];simp
  by_cases h9:p.length≤9
  · refine ⟨h9,fun e => ?_⟩
    rw [hv,e] at hl
    have:(128:Nat) ^ 9=9223372036854775808:=by decide
    rw [this] at hl
    omega
  · exfalso
    have hb:1≤b.toNat:=by
      rcases h.nz with e | e
      · subst e;simp at h9
      · omega
    have h2:128 ^ 10≤128 ^ p.length:=Nat.pow_le_pow_right (by omega) (by omega)
    have h3:128 ^ p.length * 1≤128 ^ p.length * b.toNat:=Nat.mul_le_mul_left _ hb
    have h4:(128:Nat) ^ 10=1180591620717411303424:=by decide
    omega
theorem Rc.bts_lt {p:List UInt8} {b:UInt8} (h:Rc.Bts p b) (h9:p.length≤9) (h1:p.length=9→b.toNat≤1):Rc.val (p++[b]) < 18446744073709551616:=by
  by_cases e:p.length=9
  · have hv:Rc.val (p++[b])=Rc.val p+128 ^ p.length * b.toNat:=by
      rw [Rc.val_app];simp only [Rc.val];have:=h.lo;rw [Nat.mod_eq_of_lt this];simp
    have h2:=Rc.val_lt p
    rw [e] at h2 hv
    have:(128:Nat) ^ 9=9223372036854775808:=by decide
    rw [this] at h2 hv
    have:=h1 e
    have:9223372036854775808 * b.toNat≤9223372036854775808 * 1:=Nat.mul_le_mul_left _ this
    omega
  · have h2:=Rc.val_lt (p++[b])
    have h3:(p++[b]).length≤9:=by simp;omega
    have h4:128 ^ (p++[b]).length≤128 ^ 9:=Nat.pow_le_pow_right (by omega) h3
    have:(128:Nat) ^ 9=9223372036854775808:=by decide
    omega
def Rc.No {α:Type} (enc:α→List UInt8) (fit:α→Prop) (l:List UInt8):Prop := ∀ x r,fit x→l≠enc x++r
def Rc.One {α:Type} (enc:α→List UInt8) (fit:α→Prop):Prop := ∀ x y r s,fit x→fit y→enc x++r=enc y++s→x=y∧r=s
def Rc.insFit (i:Cd.Ins):Prop:=(0≤i.op∧i.op≤16)∧(0≤i.a∧i.a≤50000)∧(-9223372036854775808≤i.n∧i.n≤9223372036854775807)∧i.text.size≤3000∧(Cd.hasA i.op=false→i.a=0)∧(i.op≠1→i.n=0∧i.text=⟨#[]⟩)∧(i.op=1→i.a=2→i.n=0)∧(i.op=1→i.a≠2→i.text=⟨#[]⟩)
def Rc.fnFit (f:Cd.Fn):Prop:=f.name.size≤30∧f.params.length≤8∧(∀ t ∈ f.params,0≤t∧t≤10)∧(0≤f.result∧f.result≤10)∧(0≤f.slots∧f.slots≤200)∧f.ins.length≤50000∧∀ i ∈ f.ins,Rc.insFit i
def Rc.fit (c:List Cd.Fn):Prop:=c.length≤60∧∀ f ∈ c,Rc.fnFit f
theorem Rc.txt_one : Rc.One Wc.txt (fun _=>True):=fun x y r s _ _ h=>by
  unfold Wc.txt at h
  rw [List.append_assoc,List.append_assoc] at h
  obtain ⟨h1,h2⟩:=Rc.num_one h
  have hl:x.data.toList.length=y.data.toList.length:=h1
  obtain ⟨h3,h4⟩:=List.append_inj h2 hl
  refine ⟨?_,h4⟩
  cases x;cases y
  simp only at h3
  congr 1
  exact Array.toList_inj.1 h3
theorem Rc.list_one {α:Type} {enc:α→List UInt8} {fit:α→Prop} (h:Rc.One enc fit):∀ (x y:List α) (r s:List UInt8),x.length=y.length→(∀ a ∈ x,fit a)→(∀ a ∈ y,fit a)→x.flatMap enc++r=y.flatMap enc++s→x=y∧r=s
  | [],[],r,s,_,_,_,e=>⟨rfl,by simpa using e⟩
  | a::x,b::y,r,s,hl,hx,hy,e=>by
    rw [List.flatMap_cons,List.flatMap_cons,List.append_assoc,List.append_assoc] at e
    obtain ⟨h1,h2⟩:=h a b _ _ (hx a (by simp)) (hy b (by simp)) e
    obtain ⟨h3,h4⟩:=Rc.list_one h x y r s (by simpa using hl) (fun z hz=>hx z (by simp [hz])) (fun z hz=>hy z (by simp [hz])) h2
    exact ⟨by rw [h1,h3],h4⟩
  | [],_::_,_,_,hl,_,_,_=>by simp at hl
  | _::_,[],_,_,hl,_,_,_=>by simp at hl
theorem Rc.int_one : Rc.One (fun t:Int=>Wc.num (Wc.u t)) (fun t=>0≤t∧t≤1000000):=fun x y r s hx hy h=>by
  obtain ⟨h1,h2⟩:=Rc.num_one h
  unfold Wc.u at h1
  exact ⟨by omega,h2⟩
theorem Rc.n_one {x y:Int} (hx : -9223372036854775808≤x∧x≤9223372036854775807) (hy : -9223372036854775808≤y∧y≤9223372036854775807) (h:Wc.u x=Wc.u y):x=y:=by unfold Wc.u at h;omega
theorem Rc.ins_one : Rc.One Wc.ins Rc.insFit:=fun x y r s hx hy h=>by
  obtain ⟨xo,xa,xn,xt⟩:=x
  obtain ⟨yo,ya,yn,yt⟩:=y
  obtain ⟨a1,a2,a3,a4,a5,a6,a7,a8⟩:=hx
  obtain ⟨b1,b2,b3,b4,b5,b6,b7,b8⟩:=hy
  simp only at a1 a2 a3 a4 a5 a6 a7 a8 b1 b2 b3 b4 b5 b6 b7 b8
  unfold Wc.ins at h
  simp only [List.append_assoc] at h
  obtain ⟨h1,h2⟩:=Rc.num_one h
  have e1:xo=yo:=by unfold Wc.u at h1;omega
  subst e1
  unfold Wc.opt at h2
  simp only at h2
  have h3:xa=ya∧Wc.lit ⟨xo,xa,xn,xt⟩++r=Wc.lit ⟨xo,ya,yn,yt⟩++s:=by
    cases hA:Cd.hasA xo with
    | true =>
      rw [hA,if_pos rfl,if_pos rfl] at h2
      obtain ⟨h4,h5⟩:=Rc.num_one h2
      exact ⟨by unfold Wc.u at h4;omega,h5⟩
    | false =>
      rw [hA,if_neg (by decide),if_neg (by decide)] at h2
      exact ⟨by rw [a5 hA,b5 hA],by simpa using h2⟩
  obtain ⟨rfl,h4⟩:=h3
  unfold Wc.lit at h4
  simp only at h4
  by_cases ho:xo=1
  · by_cases ha:xa=2
    · rw [if_pos ho,if_pos ha,if_pos ho,if_pos ha] at h4
      obtain ⟨rfl,h6⟩:=Rc.txt_one _ _ _ _ trivial trivial h4
      exact ⟨by rw [a7 ho ha,b7 ho ha],h6⟩
    · rw [if_pos ho,if_neg ha,if_pos ho,if_neg ha] at h4
      obtain ⟨h5,h6⟩:=Rc.num_one h4
      exact ⟨by rw [Rc.n_one a3 b3 h5,a8 ho ha,b8 ho ha],h6⟩
  · rw [if_neg ho,if_neg ho] at h4
    exact ⟨by rw [(a6 ho).1,(a6 ho).2,(b6 ho).1,(b6 ho).2],by simpa using h4⟩
theorem Rc.fn_one : Rc.One Wc.fn Rc.fnFit:=fun x y r s hx hy h=>by
  obtain ⟨xn,xp,xr,xs,xi⟩:=x
  obtain ⟨yn,yp,yr,ys,yi⟩:=y
  obtain ⟨a1,a2,a3,a4,a5,a6,a7⟩:=hx
  obtain ⟨b1,b2,b3,b4,b5,b6,b7⟩:=hy
  simp only at a1 a2 a3 a4 a5 a6 a7 b1 b2 b3 b4 b5 b6 b7
  unfold Wc.fn Wc.fnH Wc.pars Wc.inss at h
  simp only [List.append_assoc] at h
  obtain ⟨e0,h1⟩:=Rc.txt_one _ _ _ _ trivial trivial h
  obtain ⟨e,h2⟩:=Rc.num_one h1
  obtain ⟨e6,h3⟩:=Rc.list_one Rc.int_one xp yp _ _ e (fun t ht=>by have:=a3 t ht;omega) (fun t ht=>by have:=b3 t ht;omega) h2
  obtain ⟨e1,h4⟩:=Rc.num_one h3
  obtain ⟨e2,h5⟩:=Rc.num_one h4
  obtain ⟨e3,h6⟩:=Rc.num_one h5
  obtain ⟨e7,h7⟩:=Rc.list_one Rc.ins_one xi yi _ _ e3 a7 b7 h6
  have e4:xr=yr:=by unfold Wc.u at e1;omega
  have e5:xs=ys:=by unfold Wc.u at e2;omega
  rw [e0,e4,e5,e6,e7]
  exact ⟨rfl,h7⟩
theorem Rc.form_one {c d:List Cd.Fn} (hc:Rc.fit c) (hd:Rc.fit d) (h:Wc.form c=Wc.form d):c=d:=by
  unfold Wc.form Wc.fns at h
  simp only [List.append_assoc] at h
  have h:=List.append_cancel_left h
  obtain ⟨e,h⟩:=Rc.num_one h
  have h2:c.flatMap Wc.fn++[]=d.flatMap Wc.fn++[]:=by rw [h]
  exact (Rc.list_one Rc.fn_one c d [] [] e hc.2 hd.2 h2).1
end Go.Proofs.YtbkhedpabfanoaaGreatDoor
namespace Go.Proofs.YtbkhedpabfanoaaGreatDoor
open Go.RowKit

structure Rc.Fr (S:Nat→Prop) (w w':World):Prop where
  os:w'.os=w.os
  tape:w'.tape=w.tape
  output:w'.output=w.output
  size:w.heap.size≤w'.heap.size
  keep:∀ k,k < w.heap.size→¬ S k→w'.heap[k]? = w.heap[k]?
theorem Rc.Fr.refl (S:Nat→Prop) (w:World):Rc.Fr S w w:=⟨rfl,rfl,rfl,Nat.le_refl _,fun _ _ _=>rfl⟩
theorem Rc.Fr.trans {S:Nat→Prop} {a b c:World} (h:Rc.Fr S a b) (k:Rc.Fr S b c):Rc.Fr S a c :=
  ⟨k.os.trans h.os,k.tape.trans h.tape,k.output.trans h.output,Nat.le_trans h.size k.size,fun i hi hs=>(k.keep i (Nat.lt_of_lt_of_le hi h.size) hs).trans (h.keep i hi hs)⟩
theorem Rc.Fr.mono {S R:Nat→Prop} {a b:World} (h:Rc.Fr S a b) (hs:∀ k,S k→R k):Rc.Fr R a b:=⟨h.os,h.tape,h.output,h.size,fun i hi hr=>h.keep i hi (fun x=>hr (hs i x))⟩
theorem Rc.Fr.of_below {S:Nat→Prop} {a b:World} (h:Below a.heap.size a b):Rc.Fr S a b:=⟨h.os,h.tape,h.output,h.size,fun i hi _=>h.block i hi⟩
theorem Rc.Fr.set {S:Nat→Prop} (w:World) (g i:Nat) (v:Value) (hg:S g):Rc.Fr S w (w.setCell ⟨g,i,none⟩ v) :=
  ⟨rfl,rfl,rfl,by simp [World.setCell],fun _ _ hk=>Below.heap_setCell _ _ _ _ (fun e=>hk (by rw [e];exact hg))⟩
theorem Rc.Fr.drewN {S:Nat→Prop} {a b:World} (h:Rc.Fr S a b) (n:Nat):Rc.Fr S a (b.drewN n):=⟨h.os,h.tape,h.output,h.size,h.keep⟩
theorem Rc.Fr.below {S:Nat→Prop} {B:Nat} {w w':World} (h:Rc.Fr S w w') (hB:B≤w.heap.size) (hs:∀ k,k < B→¬ S k):Below B w w':=⟨h.os,h.tape,h.output,h.size,fun k hk=>h.keep k (by omega) (hs k hk)⟩
def Rc.Dk (g:Nat) (s:ByteArray) (p:Nat) (bad:Bool) (w:World):Prop:=w.heap[g]? = some (.cells #[.string s,.int .i64 (p:Int),.bool bad] 32)
theorem Rc.Dk.cells {g:Nat} {s:ByteArray} {p:Nat} {bad:Bool} {w:World} (h:Rc.Dk g s p bad w):(w.cell? ⟨g,0,none⟩=some (.string s)∧w.cell? ⟨g,1,none⟩=some (.int .i64 (p:Int))∧w.cell? ⟨g,2,none⟩=some (.bool bad))∧w.frozen? ⟨g,1,none⟩=false∧w.frozen? ⟨g,2,none⟩=false:=by
  unfold Rc.Dk at h
  refine ⟨⟨?_, ?_, ?_⟩, ?_, ?_⟩
  · rw [Lib.cell_of_heap h];rfl
  · rw [Lib.cell_of_heap h];rfl
  · rw [Lib.cell_of_heap h];rfl
  · simp [World.frozen?,h]
  · simp [World.frozen?,h]
theorem Rc.Dk.lt {g:Nat} {s:ByteArray} {p:Nat} {bad:Bool} {w:World} (h:Rc.Dk g s p bad w):g < w.heap.size:=(Array.getElem?_eq_some_iff.1 h).1
theorem Rc.Dk.bad {g:Nat} {s:ByteArray} {p:Nat} {bad:Bool} {w:World} (h:Rc.Dk g s p bad w) (b:Bool):Rc.Dk g s p b (w.setCell ⟨g,2,none⟩ (.bool b)):=by
  unfold Rc.Dk at h ⊢
  simp [World.setCell,Array.getElem?_modify,h]
theorem Rc.Dk.at {g:Nat} {s:ByteArray} {p:Nat} {bad:Bool} {w:World} (h:Rc.Dk g s p bad w) (q:Nat):Rc.Dk g s q bad (w.setCell ⟨g,1,none⟩ (.int .i64 (q:Int))):=by
  unfold Rc.Dk at h ⊢
  simp [World.setCell,Array.getElem?_modify,h]
theorem Rc.Dk.keep {g:Nat} {s:ByteArray} {p:Nat} {bad:Bool} {w w':World} (h:Rc.Dk g s p bad w) (hk:w'.heap[g]? = w.heap[g]?):Rc.Dk g s p bad w':=hk.trans h
theorem Rc.Dk.drewN {g:Nat} {s:ByteArray} {p:Nat} {bad:Bool} {w:World} (h:Rc.Dk g s p bad w) (n:Nat):Rc.Dk g s p bad (w.drewN n):=h
theorem Rc.Dk.below {g:Nat} {s:ByteArray} {p:Nat} {bad:Bool} {w w':World} (h:Rc.Dk g s p bad w) (hb:Below w.heap.size w w'):Rc.Dk g s p bad w':=h.keep (hb.block g h.lt)
def Rc.Rd {α:Type} (enc:α→List UInt8) (fit:α→Prop) (s:ByteArray) (p:Nat) (bad:Bool) (x:α) (p':Nat) (bad':Bool):Prop :=
  (p≤p'∧p'≤s.size)∧∀ y r,fit y→bad=false→s.data.toList.drop p=enc y++r→x=y∧bad'=false∧p'=p+(enc y).length∧s.data.toList.drop p'=r
theorem Rc.take_hi {p:List UInt8} {b:UInt8} {r:List UInt8} {k:Nat} (h:Rc.Bts p b) (hk:k < (p++[b]).length):(k < p.length∧128≤((p++[b]++r)[k]'(by simp at hk ⊢;omega)).toNat)∨(k=p.length∧((p++[b]++r)[k]'(by simp at hk ⊢;omega))=b):=by
  by_cases hl:k < p.length
  · left
    refine ⟨hl, ?_⟩
    rw [List.getElem_append_left (by simp;omega),List.getElem_append_left hl]
    exact h.hi _ (List.getElem_mem hl)
  · right
    have e:k=p.length:=by simp at hk;omega
    refine ⟨e, ?_⟩
    subst e
    rw [List.getElem_append_left (by simp),List.getElem_append_right (Nat.le_refl _)]
    simp
theorem Rc.val_snoc (l:List UInt8) (b:UInt8):Rc.val (l++[b])=Rc.val l+b.toNat % 128 * 128 ^ l.length:=by
  rw [Rc.val_app];simp only [Rc.val];rw [Nat.mul_comm];simp
def Rc.Nu (s:ByteArray) (p k:Nat) (acc:Nat) (un:Nat):Prop :=
  un=128 ^ k % 18446744073709551616∧acc < 18446744073709551616∧∀ n r,n < 18446744073709551616→s.data.toList.drop p=Wc.num n++r→k < (Wc.num n).length∧acc=Rc.val ((Wc.num n).take k)
theorem Rc.Nu.start (s:ByteArray) (p:Nat):Rc.Nu s p 0 0 1:=⟨by simp,by omega,fun n r _ _=>by
  obtain ⟨q,b,e,h1,_⟩:=Rc.num_bts n
  rw [e]
  simp [Rc.val]⟩
theorem Rc.Nu.byte {s:ByteArray} {p k acc un:Nat} (h:Rc.Nu s p k acc un) (hp:p+k < s.size) {n:Nat} {r:List UInt8} (hn:n < 18446744073709551616) (hd:s.data.toList.drop p=Wc.num n++r) :
    (128≤s[p+k].toNat∧k+1 < (Wc.num n).length∧acc+s[p+k].toNat % 128 * 128 ^ k=Rc.val ((Wc.num n).take (k+1)))∨(s[p+k].toNat < 128∧k+1=(Wc.num n).length∧acc+s[p+k].toNat % 128 * 128 ^ k=n):=by
  obtain ⟨h1,h2⟩:=h.2.2 n r hn hd
  obtain ⟨q,b,e,hB,hv⟩:=Rc.num_bts n
  rw [e] at h1 hd h2 ⊢
  have hx:s[p+k]=((q++[b])++r)[k]'(by simp at h1 ⊢;omega):=by
    have h3:(s.data.toList.drop p)[k]? = ((q++[b])++r)[k]?:=by rw [hd]
    rw [List.getElem?_drop,List.getElem?_eq_getElem (by simpa using hp),List.getElem?_eq_getElem (by simp at h1 ⊢;omega)] at h3
    exact Option.some.inj h3
  have ht:(q++[b]).take (k+1)=(q++[b]).take k++[s[p+k]]:=by
    rw [List.take_add_one,List.getElem?_eq_getElem h1,hx,List.getElem_append_left h1];rfl
  have hl:((q++[b]).take k).length=k:=by rw [List.length_take];omega
  have hs:acc+s[p+k].toNat % 128 * 128 ^ k=Rc.val ((q++[b]).take (k+1)):=by rw [ht,Rc.val_snoc,hl,h2]
  rcases Rc.take_hi (r:=r) hB h1 with ⟨h4,h5⟩ | ⟨h4,h5⟩
  · left
    rw [hx]
    exact ⟨h5,by simp;omega,by rw [← hx];exact hs⟩
  · right
    refine ⟨by rw [hx,h5];exact hB.lo,by simp;omega, ?_⟩
    rw [hs,List.take_of_length_le (by simp;omega)];exact hv
theorem Rc.Nu.short {s:ByteArray} {p k acc un:Nat} (h:Rc.Nu s p k acc un) (hp:¬ p+k < s.size) (n:Nat) (r:List UInt8) (hn:n < 18446744073709551616):s.data.toList.drop p≠Wc.num n++r:=fun hd=>by
  obtain ⟨h1,_⟩:=h.2.2 n r hn hd
  have:=congrArg List.length hd
  simp only [List.length_drop,List.length_append,Array.length_toList] at this
  have hz:s.data.size=s.size:=rfl
  omega
theorem Rc.Nu.ten {s:ByteArray} {p acc un:Nat} (h:Rc.Nu s p 10 acc un) (n:Nat) (r:List UInt8) (hn:n < 18446744073709551616):s.data.toList.drop p≠Wc.num n++r:=fun hd=>by
  obtain ⟨h1,_⟩:=h.2.2 n r hn hd
  obtain ⟨q,b,e,hB,hv⟩:=Rc.num_bts n
  have:=(Rc.bts_64 hB (by rw [hv];exact hn)).1
  rw [e] at h1
  simp at h1
  omega
def Rc.add (acc un b:Nat):Nat:=(acc+b % 128 * un % 18446744073709551616) % 18446744073709551616
theorem Rc.Nu.next {s:ByteArray} {p k acc un:Nat} (h:Rc.Nu s p k acc un) (hp:p+k < s.size) (hb:¬ s[p+k].toNat < 128):Rc.Nu s p (k+1) (Rc.add acc un s[p+k].toNat) (un * 128 % 18446744073709551616):=by
  refine ⟨by rw [h.1,Nat.pow_succ,Nat.mod_mul_mod],Nat.mod_lt _ (by omega),fun n r hn hd => ?_⟩
  rcases h.byte hp hn hd with ⟨h1,h2,h3⟩ | ⟨h1,_⟩
  · refine ⟨h2, ?_⟩
    have hlt:Rc.val ((Wc.num n).take (k+1)) < 18446744073709551616:=by
      obtain ⟨q,b,e,hB,hv⟩:=Rc.num_bts n
      have h9:=(Rc.bts_64 hB (by rw [hv];exact hn)).1
      have h4:=Rc.val_lt ((Wc.num n).take (k+1))
      have h5:((Wc.num n).take (k+1)).length≤9:=by rw [List.length_take];rw [e] at h2 ⊢;simp at h2 ⊢;omega
      have h6:128 ^ ((Wc.num n).take (k+1)).length≤128 ^ 9:=Nat.pow_le_pow_right (by omega) h5
      have:(128:Nat) ^ 9=9223372036854775808:=by decide
      omega
    unfold Rc.add
    rw [h.1,Nat.mul_mod_mod,Nat.add_mod_mod,h3,Nat.mod_eq_of_lt hlt]
  · omega
theorem Rc.Nu.last {s:ByteArray} {p k acc un:Nat} (h:Rc.Nu s p k acc un) (hp:p+k < s.size) (hb:s[p+k].toNat < 128) (n:Nat) (r:List UInt8) (hn:n < 18446744073709551616) (hd:s.data.toList.drop p=Wc.num n++r):Rc.add acc un s[p+k].toNat=n∧p+k+1=p+(Wc.num n).length:=by
  rcases h.byte hp hn hd with ⟨h1,_⟩ | ⟨_,h2,h3⟩
  · omega
  · refine ⟨?_,by omega⟩
    unfold Rc.add
    rw [h.1,Nat.mul_mod_mod,Nat.add_mod_mod,h3,Nat.mod_eq_of_lt hn]
theorem Rc.rest {s:ByteArray} {p:Nat} {a r:List UInt8} (h:s.data.toList.drop p=a++r):s.data.toList.drop (p+a.length)=r:=by
  rw [← List.drop_drop,h];simp
end Go.Proofs.YtbkhedpabfanoaaGreatDoor
namespace Go.Proofs.YtbkhedpabfanoaaGreatDoor
open Go.RowKit

def Rc.NumPost (g:Nat) (s:ByteArray) (p:Nat) (bad:Bool) (w:World) (e:Ending) (w':World):Prop :=
  ∃ n p' bad',e = .returned (.int .u64 ((n:Nat):Int))∧n < 18446744073709551616∧Rc.Dk g s p' bad' w'∧Rc.Rd Wc.num (fun n=>n < 18446744073709551616) s p bad n p' bad'∧Rc.Fr (fun k=>k=g) w w'
theorem Rc.ret_u {x y:Int} {t:IntKind} (h:x=y):Ending.returned (.int t x) = .returned (.int t y):=by rw [h]
theorem Rc.int_u {x y:Int} {t:IntKind} (h:x=y):Value.int t x = .int t y:=by rw [h]
theorem Rc.wrap64 (x:Nat):IntKind.u64.wrap (x:Int)=((x % 18446744073709551616:Nat):Int):=by
  have e:IntKind.u64.wrap (x:Int)=(x:Int) % 18446744073709551616:=by unfold IntKind.wrap;rfl
  rw [e];omega
theorem Rc.wrap_add (acc un b:Nat):IntKind.u64.wrap ((acc:Int)+IntKind.u64.wrap ((b:Int) % 128 * (un:Int)))=((Rc.add acc un b:Nat):Int):=by
  have e:(b:Int) % 128 * (un:Int)=((b % 128 * un:Nat):Int):=by rw [Int.natCast_mul];rfl
  rw [e,Rc.wrap64,← Int.natCast_add,Rc.wrap64];rfl
theorem Rc.wrap_un (un:Nat):IntKind.u64.wrap ((un:Int) * 128)=((un * 128 % 18446744073709551616:Nat):Int):=by
  have e:(un:Int) * 128=((un * 128:Nat):Int):=by rw [Int.natCast_mul];rfl
  rw [e,Rc.wrap64]
set_option maxRecDepth 100000 in
set_option maxHeartbeats 1000000 in
theorem Rc.number_any (g:Nat) (s:ByteArray) (p:Nat) (bad:Bool) (hs:s.size≤1048576) (hp:p≤s.size) (w:World) (hD:Rc.Dk g s p bad w) :
    Calls Tryz.prog 17 #[.pointer (some ⟨g,0,none⟩)] w (Rc.NumPost g s p bad w):=by
  have HD:Hid (Rc.Dk g s p bad w):=hD
  clear hD
  go_enter Tryz.func17,Tryz.ntmps17
  go_wp2_with fail
  go_loopw [3,4,5] (fun tn tu tk wr => ∃ (k acc un:Nat),k≤10∧tn = .int .u64 (acc:Int)∧tu = .int .u64 (un:Int)∧tk = .int .i64 (k:Int)∧Rc.Dk g s (p+k) bad wr∧Rc.Fr (fun k=>k=g) w wr∧Rc.Nu s p k acc un∧p+k≤s.size) (fun _ _ tk _=>10 - (intOf tk).toNat)
  case atStart=>exact ⟨0,0,1,by omega,rfl,rfl,rfl,HD.out,Rc.Fr.refl _ _,Rc.Nu.start s p,by omega⟩
  case round =>
    obtain ⟨k,acc,un,hk,rfl,rfl,rfl,hD,hF,hN,hpk⟩:=hrel
    obtain ⟨q,hq⟩:∃ q,p+k=q:=⟨_,rfl⟩
    rw [hq] at hD hpk
    obtain ⟨⟨c0,c1,c2⟩,f1,f2⟩:=hD.cells
    have HD1:Hid (Rc.Dk g s q bad wr):=hD
    have HF:Hid (Rc.Fr (fun k=>k=g) w wr):=hF
    have HN:Hid (Rc.Nu s p k acc un):=hN
    have HQ:Hid (p+k=q):=hq
    have hpq:p≤q:=by omega
    clear hD hF hN hq
    cases bad with
    | true =>
      go_wp2_with fail
      all_goals
        go_ret
        exact ⟨0,q,true,rfl,by omega,HD1.out.bad true,⟨⟨hpq,hpk⟩,fun y r _ h=>by cases h⟩,HF.out.trans (Rc.Fr.set _ _ _ _ rfl)⟩
    | false =>
      by_cases h10:k < 10
      · have h10I:(k:Int) < 10:=by omega
        by_cases hsh:q < s.size
        · have hshI:¬ (s.size:Int)≤(q:Int):=by omega
          have hshJ:(q:Int) < (s.size:Int):=by omega
          obtain ⟨b,HB⟩:∃ b,Hid (s[q].toNat=b):=⟨_,(rfl:s[q].toNat=_)⟩
          have hb:b < 256:=by rw [← HB.out];exact s[q].toNat_lt
          have hbI:((s[q].toNat:Nat):Int)=(b:Int):=by rw [HB.out]
          go_wp2_with fail
          go_quiet (fail)
          go_wp2_with fail
          go_quiet (fail)
          go_wp2_with fail
          · have hlo:b < 128:=by omega
            go_ret
            refine ⟨Rc.add acc un b,q+1,false,Rc.ret_u (Rc.wrap_add _ _ _),Nat.mod_lt _ (by omega),(HD1.out.drewN _).at (q+1),⟨⟨by omega,by omega⟩,fun y r hy _ hd => ?_⟩,(HF.out.drewN _).trans (Rc.Fr.set _ _ _ _ rfl)⟩
            have e1:=HB.out
            have e2:=HQ.out
            subst e2
            obtain ⟨h1,h2⟩:=HN.out.last hsh (by rw [e1];exact hlo) y r hy hd
            rw [e1] at h1
            exact ⟨h1,rfl,h2,by rw [h2];exact Rc.rest hd⟩
          · have hlo:¬ b < 128:=by omega
            refine ⟨⟨k+1,Rc.add acc un b,un * 128 % 18446744073709551616,by omega,Rc.int_u (Rc.wrap_add _ _ _),Rc.int_u (Rc.wrap_un _),by go_num, ?_,(HF.out.drewN _).trans (Rc.Fr.set _ _ _ _ rfl), ?_, ?_⟩,by simp [intOf];omega⟩
            · rw [← Nat.add_assoc,HQ.out];exact (HD1.out.drewN _).at (q+1)
            · have e1:=HB.out
              have e2:=HQ.out
              subst e2
              have:=HN.out.next hsh (by rw [e1];exact hlo)
              rw [e1] at this
              exact this
            · have:=HQ.out;omega
        · have hshI:(s.size:Int)≤(q:Int):=by omega
          go_wp2_with fail
          go_quiet (fail)
          go_wp2_with fail
          go_ret
          exact ⟨0,q,true,rfl,by omega,HD1.out.bad true,⟨⟨hpq,hpk⟩,fun y r hy _ hd=>absurd hd (HN.out.short (by rw [HQ.out];exact hsh) y r hy)⟩,(HF.out.drewN nq).trans (Rc.Fr.set _ _ _ _ rfl)⟩
      · have h10I:¬ (k:Int) < 10:=by omega
        have HE:Hid (k=10):=by rw [Hid];omega
        go_wp2_with fail
        go_ret
        exact ⟨0,q,true,rfl,by omega,HD1.out.bad true,⟨⟨hpq,hpk⟩,fun y r hy _ hd=>absurd hd (Rc.Nu.ten (by rw [← HE.out];exact HN.out) y r hy)⟩,HF.out.trans (Rc.Fr.set _ _ _ _ rfl)⟩
end Go.Proofs.YtbkhedpabfanoaaGreatDoor
namespace Go.Proofs.YtbkhedpabfanoaaGreatDoor
open Go.RowKit

def Rc.SmallPost (m g:Nat) (s:ByteArray) (p:Nat) (bad:Bool) (w:World) (e:Ending) (w':World):Prop :=
  ∃ n p' bad',e = .returned (.int .i64 ((n:Nat):Int))∧n≤m∧Rc.Dk g s p' bad' w'∧Rc.Rd Wc.num (fun n=>n≤m) s p bad n p' bad'∧Rc.Fr (fun k=>k=g) w w'
theorem Rc.Rd.no {α:Type} {enc:α→List UInt8} {fit:α→Prop} {s:ByteArray} {p:Nat} {bad:Bool} {p':Nat} (x:α) {bad':Bool} (h1:p≤p') (h2:p'≤s.size) (h:∀ y r,fit y→bad=false→s.data.toList.drop p=enc y++r→False):Rc.Rd enc fit s p bad x p' bad':=⟨⟨h1,h2⟩,fun y r h3 h4 h5=>(h y r h3 h4 h5).elim⟩
set_option maxRecDepth 100000 in
set_option maxHeartbeats 1000000 in
theorem Rc.small_any (m g:Nat) (s:ByteArray) (p:Nat) (bad:Bool) (hm:m≤1000000) (hs:s.size≤1048576) (hp:p≤s.size) (w:World) (hD:Rc.Dk g s p bad w) :
    Calls Tryz.prog 9 #[.pointer (some ⟨g,0,none⟩),.int .i64 (m:Int)] w (Rc.SmallPost m g s p bad w):=by
  have HC:Hid (Calls Tryz.prog 17 #[.pointer (some ⟨g,0,none⟩)] w (Rc.NumPost g s p bad w)):=Rc.number_any g s p bad hs hp w hD
  clear hD
  go_enter Tryz.func9,Tryz.ntmps9
  go_wp2_with (go_at_call 17;refine HC.out.mono ?_;rintro e w1 ⟨n,p1,b1,rfl,hn,hD1,⟨⟨h1,h2⟩,h3⟩,hF1⟩;have HD1:Hid (Rc.Dk g s p1 b1 w1):=hD1;obtain ⟨⟨c0,c1,c2⟩,f1,f2⟩:=hD1.cells;have HR:Hid (∀ y r,y < 18446744073709551616→bad=false→s.data.toList.drop p=Wc.num y++r→n=y∧b1=false∧p1=p+(Wc.num y).length∧s.data.toList.drop p1=r):=h3;have HF1:Hid (Rc.Fr (fun k=>k=g) w w1):=hF1;clear hD1 h3 hF1)
  · have hb:b1=true:=by assumption
    go_ret
    exact ⟨0,p1,true,rfl,by omega,HD1.out.bad true,Rc.Rd.no 0 h1 h2 (fun y r hy h0 hd=>by have:=(HR.out y r (by omega) h0 hd).2.1;rw [hb] at this;cases this),HF1.out.trans (Rc.Fr.set _ _ _ _ rfl)⟩
  · have hb:m < n:=by omega
    go_ret
    exact ⟨0,p1,true,rfl,by omega,HD1.out.bad true,Rc.Rd.no 0 h1 h2 (fun y r hy h0 hd=>by have:=(HR.out y r (by omega) h0 hd).1;omega),HF1.out.trans (Rc.Fr.set _ _ _ _ rfl)⟩
  · have hb:n≤m:=by omega
    go_ret
    exact ⟨n,p1,b1,rfl,hb,HD1.out,⟨⟨h1,h2⟩,fun y r hy h0 hd=>HR.out y r (by omega) h0 hd⟩,HF1.out⟩
theorem Rc.ext_list (s:ByteArray) (a b:Nat):(s.extract a b).data.toList=(s.data.toList.drop a).take (b - a):=by
  rw [ByteArray.data_extract,Array.toList_extract,List.extract_eq_take_drop]
theorem Rc.ba_eq {x y:ByteArray} (h:x.data.toList=y.data.toList):x=y:=by
  cases x;cases y;congr 1;exact Array.toList_inj.1 h
theorem Rc.ba_len (x:ByteArray):x.data.toList.length=x.size:=rfl
def Rc.TextPost (g:Nat) (s:ByteArray) (p:Nat) (bad:Bool) (w:World) (e:Ending) (w':World):Prop :=
  ∃ t p' bad',e = .returned (.string t)∧t.size≤3000∧Rc.Dk g s p' bad' w'∧Rc.Rd Wc.txt (fun t=>t.size≤3000) s p bad t p' bad'∧Rc.Fr (fun k=>k=g) w w'
set_option maxRecDepth 100000 in
set_option maxHeartbeats 1000000 in
theorem Rc.text_any (g:Nat) (s:ByteArray) (p:Nat) (bad:Bool) (hs:s.size≤1048576) (hp:p≤s.size) (w:World) (hD:Rc.Dk g s p bad w) :
    Calls Tryz.prog 18 #[.pointer (some ⟨g,0,none⟩)] w (Rc.TextPost g s p bad w):=by
  have HC:Hid (Calls Tryz.prog 9 #[.pointer (some ⟨g,0,none⟩),.int .i64 3000] w (Rc.SmallPost 3000 g s p bad w)):=Rc.small_any 3000 g s p bad (by omega) hs hp w hD
  clear hD
  go_enter Tryz.func18,Tryz.ntmps18
  go_wp2_with (go_at_call 9;refine HC.out.mono ?_;rintro e w1 ⟨n,p1,b1,rfl,hn,hD1,⟨⟨h1,h2⟩,h3⟩,hF1⟩;have HD1:Hid (Rc.Dk g s p1 b1 w1):=hD1;obtain ⟨⟨c0,c1,c2⟩,f1,f2⟩:=hD1.cells;have HR:Hid (∀ y r,y≤3000→bad=false→s.data.toList.drop p=Wc.num y++r→n=y∧b1=false∧p1=p+(Wc.num y).length∧s.data.toList.drop p1=r):=h3;have HF1:Hid (Rc.Fr (fun k=>k=g) w w1):=hF1;clear hD1 h3 hF1)
  cases b1 with
  | true =>
    go_quiet (fail)
    go_wp2_with fail
    go_ret
    exact ⟨⟨#[]⟩,p1,true,rfl,Nat.zero_le _,(HD1.out.drewN _).bad true,Rc.Rd.no _ h1 h2 (fun y r hy h0 hd=>by have:=(HR.out y.size _ hy h0 (by rw [hd,Wc.txt,List.append_assoc])).2.1;cases this),(HF1.out.drewN _).trans (Rc.Fr.set _ _ _ _ rfl)⟩
  | false =>
    by_cases hl:s.size < p1+n
    · have hlI:(s.size:Int) < (p1:Int)+(n:Int):=by omega
      go_quiet (fail)
      go_wp2_with fail
      go_ret
      refine ⟨⟨#[]⟩,p1,true,rfl,Nat.zero_le _,(HD1.out.drewN _).bad true,Rc.Rd.no _ h1 h2 (fun y r hy h0 hd => ?_),(HF1.out.drewN _).trans (Rc.Fr.set _ _ _ _ rfl)⟩
      obtain ⟨e1,-,-,e2⟩:=HR.out y.size _ hy h0 (by rw [hd,Wc.txt,List.append_assoc])
      have:=congrArg List.length e2
      simp only [List.length_drop,List.length_append,Array.length_toList] at this
      have hz:s.data.size=s.size:=rfl
      have hy:y.data.size=y.size:=rfl
      omega
    · have hlI:¬ (s.size:Int) < (p1:Int)+(n:Int):=by omega
      go_quiet (fail)
      go_wp2_with fail
      obtain ⟨p2,HP⟩:∃ p2,Hid (p1+n=p2):=⟨_,(rfl:p1+n=_)⟩
      have e0:(p1:Int)+(n:Int)=(p2:Int):=by have:=HP.out;omega
      rw [e0]
      have HD2:Hid (Rc.Dk g s p2 false ((w1.drewN nq).setCell ⟨g,1,none⟩ (.int .i64 (p2:Int)))):=(HD1.out.drewN nq).at p2
      have HF2:Hid (Rc.Fr (fun k=>k=g) w ((w1.drewN nq).setCell ⟨g,1,none⟩ (.int .i64 (p2:Int)))):=(HF1.out.drewN nq).trans (Rc.Fr.set _ _ _ _ rfl)
      obtain ⟨W2,hW2⟩:∃ W,(w1.drewN nq).setCell ⟨g,1,none⟩ (.int .i64 (p2:Int))=W:=⟨_,rfl⟩
      rw [hW2] at HD2 HF2 ⊢
      clear hW2 c0 c1 c2 f1 f2 hlI
      obtain ⟨⟨c0,c1,c2⟩,f1,f2⟩:=HD2.out.cells
      have e1:IntKind.i64.wrap ((p2:Int) - (n:Int))=(p1:Int):=by
        have e:(p2:Int) - (n:Int)=(p1:Int):=by omega
        rw [e,IntKind.wrap_i64];omega
      have h12:(p1:Int)≤(p2:Int):=by omega
      have h2s:(p2:Int)≤(s.size:Int):=by omega
      clear e0
      go_quiet (fail)
      go_wp2_with fail
      go_ret
      have hz:(s.extract p1 p2).size=n:=by
        rw [← Rc.ba_len,Rc.ext_list,List.length_take,List.length_drop,Rc.ba_len]
        have:=HP.out
        omega
      refine ⟨s.extract p1 p2,p2,false,rfl,by omega,HD2.out.drewN _,⟨⟨by omega,by omega⟩,fun y r hy h0 hd => ?_⟩,HF2.out.drewN _⟩
      obtain ⟨e2,-,e3,e4⟩:=HR.out y.size _ hy h0 (by rw [hd,Wc.txt,List.append_assoc])
      have e5:=HP.out
      refine ⟨Rc.ba_eq ?_,rfl, ?_, ?_⟩
      · rw [Rc.ext_list,e4,List.take_append_of_le_length (by rw [Rc.ba_len];omega),List.take_of_length_le (by rw [Rc.ba_len];omega)]
      · rw [Wc.txt,List.length_append,Rc.ba_len];omega
      · rw [← e5,e2,← Rc.ba_len y];exact Rc.rest e4
end Go.Proofs.YtbkhedpabfanoaaGreatDoor
