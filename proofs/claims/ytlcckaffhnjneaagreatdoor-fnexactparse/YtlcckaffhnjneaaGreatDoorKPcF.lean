import Derived.Test.YtlcckaffhnjneaaGreatDoorKPcE
import Derived.Test.YtlcckaffhnjneaaGreatDoorKTreeZF
set_option maxRecDepth 100000
set_option maxHeartbeats 2000000
namespace Go.Proofs.YtlcckaffhnjneaaGreatDoor
open Go.RowKit
variable {ts:List (Mill.Piece × Nat)} {g:Nat} {a:Option Addr} {c E i j:Nat} {w W W2:World}
def Pa.Rb (B:Nat) (W:World) (t:Mill.Tr) (v:Value):Prop:=Mill.Rep (fun b=>B≤b∧b < W.heap.size) W t v
def Pa.Rbs (B:Nat) (W:World) (l:List Mill.Tr) (us:List Value):Prop:=Mill.Reps (fun b=>B≤b∧b < W.heap.size) W l us
theorem Pa.Rb.fr {B:Nat} {t:Mill.Tr} {v:Value} (h:Pa.Rb B W t v) (hF:Pa.Fr g W W2) (hB:g < B):Pa.Rb B W2 t v :=
 Mill.Rep.below (fun b hb=>⟨hb.1,Nat.lt_of_lt_of_le hb.2 hF.size⟩) (fun b hb=>hF.keep b hb.2 (by omega)) t v h
theorem Pa.Rbs.fr {B:Nat} {l:List Mill.Tr} {us:List Value} (h:Pa.Rbs B W l us) (hF:Pa.Fr g W W2) (hB:g < B):Pa.Rbs B W2 l us :=
 Mill.Reps.below (fun b hb=>⟨hb.1,Nat.lt_of_lt_of_le hb.2 hF.size⟩) (fun b hb=>hF.keep b hb.2 (by omega)) l us h
theorem Pa.Rb.mono {B C:Nat} {t:Mill.Tr} {v:Value} (h:Pa.Rb B W t v) (hB:C≤B):Pa.Rb C W t v :=
 Mill.Rep.below (fun b hb=>⟨by omega,hb.2⟩) (fun b hb=>rfl) t v h
theorem Pa.kinded_of {P:Nat→Prop}:∀ (l:List Mill.Tr) (us:List Value),Mill.Reps P W l us→Mill.Kinded us (l.map (fun t=>t.nd.kind))
 | [],us,h=>by rw [Mill.Reps] at h;subst h;exact ⟨rfl,fun i h=>by simp at h⟩
 | t::r,us,h=>by
  rw [Mill.Reps] at h
  obtain ⟨u,us',rfl,h1,h2⟩:=h
  have ih:=Pa.kinded_of r us' h2
  obtain ⟨d,ks⟩:=t
  rw [Mill.Rep] at h1
  obtain ⟨vs,hS,hk,_,_,_⟩:=h1
  obtain ⟨f1,f2,x,rfl,f3⟩:=Mill.form_of hk hS
  refine ⟨by simp [ih.1],fun i hi => ?_⟩
  cases i with
  | zero=>exact ⟨f1,f2,x,rfl,f3⟩
  | succ i=>exact ih.2 i (by simpa using hi)
theorem Pa.rb_mk {B:Nat} (d:Mill.Nd) (l:List Mill.Tr) (us:List Value) (x:Value) (h1:1≤d.kind) (h2:d.kind≤24) (hI:Mill.Inner (fun b=>B≤b∧b < W.heap.size) W d us x) (hR:Pa.Rbs B W l us) (hl:us.length≤100000):Pa.Rb B W (.node d l) (.iface (Mill.ty d.kind) x):=by
 unfold Pa.Rb
 rw [Mill.Rep]
 exact ⟨us,⟨h1,h2,x,rfl,hI⟩,Pa.kinded_of l us hR,fun _=>hl,hl,hR⟩
theorem Pa.rbs_nil (B:Nat) (W:World):Pa.Rbs B W [] []:=by unfold Pa.Rbs;rw [Mill.Reps]
theorem Pa.rbs_one {B:Nat} {t:Mill.Tr} {v:Value} (h:Pa.Rb B W t v):Pa.Rbs B W [t] [v]:=by
 unfold Pa.Rbs;rw [Mill.Reps];exact ⟨v,[],rfl,h,Pa.rbs_nil B W⟩
theorem Pa.rbs_two {B:Nat} {t t2:Mill.Tr} {v v2:Value} (h:Pa.Rb B W t v) (h2:Pa.Rb B W t2 v2):Pa.Rbs B W [t,t2] [v,v2]:=by
 unfold Pa.Rbs;rw [Mill.Reps];exact ⟨v,[v2],rfl,h,Pa.rbs_one h2⟩
theorem Pa.rbs_three {B:Nat} {t t2 t3:Mill.Tr} {v v2 v3:Value} (h:Pa.Rb B W t v) (h2:Pa.Rb B W t2 v2) (h3:Pa.Rb B W t3 v3):Pa.Rbs B W [t,t2,t3] [v,v2,v3]:=by
 unfold Pa.Rbs;rw [Mill.Reps];exact ⟨v,[v2,v3],rfl,h,Pa.rbs_two h2 h3⟩
theorem Pa.rb_int (B:Nat) (W:World) (t y:Int):Pa.Rb B W (Pa.lf 1 0 t y []) (.iface 156 (.agg #[.int .i64 t,.int .i64 y])) :=
 Pa.rb_mk ⟨1,0,t,y,Mill.ba [],0⟩ [] [] _ (by simp) (by simp) ⟨rfl,rfl⟩ (Pa.rbs_nil _ _) (by simp)
theorem Pa.rb_text (B:Nat) (W:World) (x:List UInt8):Pa.Rb B W (Pa.lf 2 0 0 0 x) (.iface 158 (.agg #[.string (Mill.ba x)])) :=
 Pa.rb_mk ⟨2,0,0,0,Mill.ba x,0⟩ [] [] _ (by simp) (by simp) ⟨rfl,rfl⟩ (Pa.rbs_nil _ _) (by simp)
theorem Pa.rb_bool (B:Nat) (W:World) (n:Int):Pa.Rb B W (Pa.lf 3 0 0 n []) (.iface 160 (.agg #[.bool (n == 1)])) :=
 Pa.rb_mk ⟨3,0,0,n,Mill.ba [],0⟩ [] [] _ (by simp) (by simp) ⟨rfl,rfl⟩ (Pa.rbs_nil _ _) (by simp)
theorem Pa.rb_name (B:Nat) (W:World) (x:List UInt8):Pa.Rb B W (Pa.lf 4 0 0 0 x) (.iface 162 (.agg #[.string (Mill.ba x)])) :=
 Pa.rb_mk ⟨4,0,0,0,Mill.ba x,0⟩ [] [] _ (by simp) (by simp) ⟨rfl,rfl⟩ (Pa.rbs_nil _ _) (by simp)
theorem Pa.rb_un {B:Nat} {t:Mill.Tr} {v:Value} (o:Int) (h:Pa.Rb B W t v):Pa.Rb B W (Pa.br 5 o 0 [] [t]) (.iface 164 (.agg #[.int .i64 o,v])) :=
 Pa.rb_mk ⟨5,o,0,0,Mill.ba [],1⟩ [t] [v] _ (by simp) (by simp) ⟨v,rfl,rfl⟩ (Pa.rbs_one h) (by simp)
theorem Pa.rb_bin {B:Nat} {t t2:Mill.Tr} {v v2:Value} (o:Int) (h:Pa.Rb B W t v) (h2:Pa.Rb B W t2 v2):Pa.Rb B W (Pa.br 6 o 0 [] [t,t2]) (.iface 166 (.agg #[.int .i64 o,v,v2])) :=
 Pa.rb_mk ⟨6,o,0,0,Mill.ba [],2⟩ [t,t2] [v,v2] _ (by simp) (by simp) ⟨v,v2,rfl,rfl⟩ (Pa.rbs_two h h2) (by simp)
theorem Pa.rb_conv {B:Nat} {t:Mill.Tr} {v:Value} (o:Int) (h:Pa.Rb B W t v):Pa.Rb B W (Pa.br 9 0 o [] [t]) (.iface 175 (.agg #[.int .i64 o,v])) :=
 Pa.rb_mk ⟨9,0,o,0,Mill.ba [],1⟩ [t] [v] _ (by simp) (by simp) ⟨v,rfl,rfl⟩ (Pa.rbs_one h) (by simp)
def Pa.Ans (ts:List (Mill.Piece × Nat)) (g:Nat) (a:Option Addr) (c E:Nat) (r:Except Nat (Mill.Tr × Nat)) (w:World) (e:Ending) (w':World):Prop:=match r with
 | .ok p => ∃ ty x,e = .returned (.iface ty x)∧Pa.Rb w.heap.size w' p.1 (.iface ty x)∧Pa.Pt ts g a c E p.2 w w'
 | .error k=>e=Pa.pan ts E k∧Pa.Fr g w w'
def Pa.RankIs (ts:List (Mill.Piece × Nat)) (g:Nat) (a:Option Addr) (c E n:Nat):Prop := ∀ (l i:Nat) (w:World) (r:Except Nat (Mill.Tr × Nat)),1≤l→l≤6→Pa.rank ts n l i=some r→Pa.Tb g w→Pa.P ts g a c E i w →
 Calls Tryz.prog 137 #[.pointer (some ⟨g,0,none⟩),.int .i64 (l:Int)] w (Pa.Ans ts g a c E r w)
def Pa.UnmIs (ts:List (Mill.Piece × Nat)) (g:Nat) (a:Option Addr) (c E n:Nat):Prop := ∀ (i:Nat) (w:World) (r:Except Nat (Mill.Tr × Nat)),Pa.unm ts n i=some r→Pa.Tb g w→Pa.P ts g a c E i w →
 Calls Tryz.prog 143 #[.pointer (some ⟨g,0,none⟩)] w (Pa.Ans ts g a c E r w)
theorem Pa.value_any (n:Nat) (ih:Pa.RankIs ts g a c E n) (r:Except Nat (Mill.Tr × Nat)) (hr:Pa.rank ts n 1 i=some r) (hB:Pa.Tb g w) (hP:Pa.P ts g a c E i w) :
  Calls Tryz.prog 120 #[.pointer (some ⟨g,0,none⟩)] w (Pa.Ans ts g a c E r w):=by
 have HE:=ih 1 i w r (by omega) (by omega) hr hB hP
 cases r with
 | ok p =>
  go_enter Tryz.func120,Tryz.ntmps120
  go_wp2_with (go_at_call 137;refine HE.mono ?_;rintro e W1 ⟨ty,x,rfl,hR,hT⟩)
  go_ret
  exact ⟨ty,x,rfl,hR,hT⟩
 | error k =>
  go_enter Tryz.func120,Tryz.ntmps120
  go_wp2_with (go_at_call 137;refine HE.mono ?_;rintro e W1 ⟨rfl,hF⟩;unfold Pa.pan)
  exact ⟨rfl,rfl,hF⟩
variable {ts:List (Mill.Piece × Nat)} {g:Nat} {a:Option Addr} {c E i j:Nat} {w W W2:World}
theorem Pa.bd_none {α β:Type} {f:α→Nat→Pa.R β}:Pa.bd none f=none:=rfl
theorem Pa.bd_err {α β:Type} {k:Nat} {f:α→Nat→Pa.R β}:Pa.bd (some (.error k)) f=some (.error k):=rfl
theorem Pa.bd_ok {α β:Type} {x:α × Nat} {f:α→Nat→Pa.R β}:Pa.bd (some (.ok x)) f=f x.1 x.2:=rfl
theorem Pa.nd_yes {k:Int} {T:List UInt8} (h:Pa.st ts k T i=true):Pa.nd ts k T i=some (.ok ((),i+1)):=by simp [Pa.nd,h]
theorem Pa.nd_no {k:Int} {T:List UInt8} (h:Pa.st ts k T i=false):Pa.nd ts k T i=some (.error i):=by simp [Pa.nd,h]
theorem Pa.brk_any (n:Nat) (ih:Pa.RankIs ts g a c E n) (r:Except Nat (Mill.Tr × Nat)) (hr:Pa.brk ts (n+1) i=some r) (hB:Pa.Tb g w) (hP:Pa.P ts g a c E i w) :
  Calls Tryz.prog 147 #[.pointer (some ⟨g,0,none⟩)] w (Pa.Ans ts g a c E r w):=by
 have hT:Pa.Pt ts g a c E i w w:=⟨hP,Pa.Fr.refl _ _⟩
 have hgw:=hP.lt
 have mkA:True:=trivial
 have mkB:True:=trivial
 rw [Pa.brk] at hr
 cases h1:Pa.st ts 5 [40] i with
 | false =>
  rw [Pa.nd_no h1,Pa.bd_err,Option.some.injEq] at hr
  subst hr
  go_enter Tryz.func147,Tryz.ntmps147
  go_wp2_with ((have _t:=mkA;go_at_call 67;refine (Pa.needsM_no [40] h1 hT.1).mono ?_;rintro e V ⟨rfl,hT'⟩;have hF:=(hT.to hT').2;clear mkA;unfold Pa.pan))
  exact ⟨rfl,rfl,hF⟩
 | true =>
  rw [Pa.nd_yes h1,Pa.bd_ok] at hr
  simp only at hr
  cases h2:Pa.rank ts n 1 (i+1) with
  | none=>rw [h2,Pa.bd_none] at hr;simp at hr
  | some q =>
   rw [h2] at hr
   have HE:Hid (∀ W,Pa.Tb g W→Pa.P ts g a c E (i+1) W→Calls Tryz.prog 120 #[.pointer (some ⟨g,0,none⟩)] W (Pa.Ans ts g a c E q W)):=fun W hb hp=>Pa.value_any n ih q h2 hb hp
   cases q with
   | error k =>
    rw [Pa.bd_err,Option.some.injEq] at hr
    subst hr
    go_enter Tryz.func147,Tryz.ntmps147
    go_wp2_with (first
     | (have _t:=mkA;go_at_call 67;refine (Pa.needsM_ok [40] h1 hT.1).mono ?_;rintro e V ⟨rfl,hT'⟩;replace hT:=hT.to hT';clear hT' mkA)
     | (go_at_call 120;refine (HE.out _ (hB.fr hT.2) hT.1).mono ?_;rintro e V ⟨rfl,hF'⟩;have hF:=hT.2.trans hF';unfold Pa.pan))
    exact ⟨rfl,rfl,hF⟩
   | ok x =>
    rw [Pa.bd_ok] at hr
    cases h3:Pa.st ts 5 [41] x.2 with
    | false =>
     rw [Pa.nd_no h3,Pa.bd_err,Option.some.injEq] at hr
     subst hr
     go_enter Tryz.func147,Tryz.ntmps147
     go_wp2_with (first
      | (have _t:=mkA;go_at_call 67;refine (Pa.needsM_ok [40] h1 hT.1).mono ?_;rintro e V ⟨rfl,hT'⟩;replace hT:=hT.to hT';clear hT' mkA)
      | (go_at_call 120;refine (HE.out _ (hB.fr hT.2) hT.1).mono ?_;rintro e V ⟨ty,y,rfl,hR,hT'⟩;replace hT:=hT.to hT';clear hT')
      | (have _t:=mkB;go_at_call 67;refine (Pa.needsM_no [41] h3 hT.1).mono ?_;rintro e V ⟨rfl,hT'⟩;have hF:=(hT.to hT').2;clear mkB;unfold Pa.pan))
     exact ⟨rfl,rfl,hF⟩
    | true =>
     rw [Pa.nd_yes h3,Pa.bd_ok,Option.some.injEq] at hr
     subst hr
     go_enter Tryz.func147,Tryz.ntmps147
     go_wp2_with (first
      | (have _t:=mkA;go_at_call 67;refine (Pa.needsM_ok [40] h1 hT.1).mono ?_;rintro e V ⟨rfl,hT'⟩;replace hT:=hT.to hT';clear hT' mkA)
      | (go_at_call 120;refine (HE.out _ (hB.fr hT.2) hT.1).mono ?_;rintro e V ⟨ty,y,rfl,hR,hT'⟩;have hsz:=hT.2.size;replace hT:=hT.to hT';clear hT')
      | (have _t:=mkB;go_at_call 67;refine (Pa.needsM_ok [41] h3 hT.1).mono ?_;rintro e V ⟨rfl,hT'⟩;replace hR:=(hR.mono hsz).fr hT'.2 hgw;replace hT:=hT.to hT';clear hT' mkB))
     go_ret
     exact ⟨ty,y,rfl,hR,hT⟩
end Go.Proofs.YtlcckaffhnjneaaGreatDoor
