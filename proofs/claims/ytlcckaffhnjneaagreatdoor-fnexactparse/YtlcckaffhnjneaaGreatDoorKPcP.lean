import Derived.Test.YtlcckaffhnjneaaGreatDoorKPcN
set_option maxRecDepth 100000
set_option maxHeartbeats 2000000
namespace Go.Proofs.YtlcckaffhnjneaaGreatDoor
open Go.RowKit
variable {ts:List (Mill.Piece × Nat)} {g:Nat} {a:Option Addr} {c E i j:Nat} {w W W2:World}
theorem Pa.rb_let {B:Nat} {t:Mill.Tr} {v:Value} (x:List UInt8) (h:Pa.Rb B W t v):Pa.Rb B W (Pa.br 10 0 0 x [t]) (.iface 177 (.agg #[.string (Mill.ba x),v])) :=
 Pa.rb_mk ⟨10,0,0,0,Mill.ba x,1⟩ [t] [v] _ (by simp) (by simp) ⟨v,rfl,rfl⟩ (Pa.rbs_one h) (by simp)
theorem Pa.rb_set {B:Nat} {t:Mill.Tr} {v:Value} (x:List UInt8) (h:Pa.Rb B W t v):Pa.Rb B W (Pa.br 11 0 0 x [t]) (.iface 178 (.agg #[.string (Mill.ba x),v])) :=
 Pa.rb_mk ⟨11,0,0,0,Mill.ba x,1⟩ [t] [v] _ (by simp) (by simp) ⟨v,rfl,rfl⟩ (Pa.rbs_one h) (by simp)
theorem Pa.rb_break (B:Nat) (W:World):Pa.Rb B W (Pa.lf 14 0 0 0 []) (.iface 180 (.agg #[])) :=
 Pa.rb_mk ⟨14,0,0,0,Mill.ba [],0⟩ [] [] _ (by simp) (by simp) ⟨rfl,rfl⟩ (Pa.rbs_nil _ _) (by simp)
theorem Pa.rb_continue (B:Nat) (W:World):Pa.Rb B W (Pa.lf 15 0 0 0 []) (.iface 181 (.agg #[])) :=
 Pa.rb_mk ⟨15,0,0,0,Mill.ba [],0⟩ [] [] _ (by simp) (by simp) ⟨rfl,rfl⟩ (Pa.rbs_nil _ _) (by simp)
theorem Pa.rb_ret0 (B:Nat) (W:World):Pa.Rb B W (Pa.lf 16 0 0 0 []) (.iface 183 (.agg #[.nilIface])) :=
 Pa.rb_mk ⟨16,0,0,0,Mill.ba [],0⟩ [] [] _ (by simp) (by simp) (.inl ⟨rfl,rfl⟩) (Pa.rbs_nil _ _) (by simp)
theorem Pa.rb_ret1 {B:Nat} {t:Mill.Tr} {ty:TypeId} {y:Value} (h:Pa.Rb B W t (.iface ty y)):Pa.Rb B W (Pa.br 16 0 0 [] [t]) (.iface 183 (.agg #[.iface ty y])) :=
 Pa.rb_mk ⟨16,0,0,0,Mill.ba [],1⟩ [t] [.iface ty y] _ (by simp) (by simp) (.inr ⟨ty,y,rfl,rfl⟩) (Pa.rbs_one h) (by simp)
theorem Pa.rb_fail {B:Nat} {t:Mill.Tr} {v:Value} (h:Pa.Rb B W t v):Pa.Rb B W (Pa.br 17 0 0 [] [t]) (.iface 185 (.agg #[v])) :=
 Pa.rb_mk ⟨17,0,0,0,Mill.ba [],1⟩ [t] [v] _ (by simp) (by simp) ⟨v,rfl,rfl⟩ (Pa.rbs_one h) (by simp)
theorem Pa.rb_say {B:Nat} {t:Mill.Tr} {v:Value} (h:Pa.Rb B W t v):Pa.Rb B W (Pa.br 19 0 0 [] [t]) (.iface 188 (.agg #[v])) :=
 Pa.rb_mk ⟨19,0,0,0,Mill.ba [],1⟩ [t] [v] _ (by simp) (by simp) ⟨v,rfl,rfl⟩ (Pa.rbs_one h) (by simp)
theorem Pa.rb_write {B:Nat} {t t2:Mill.Tr} {v v2:Value} (h:Pa.Rb B W t v) (h2:Pa.Rb B W t2 v2):Pa.Rb B W (Pa.br 18 0 0 [] [t,t2]) (.iface 187 (.agg #[v,v2])) :=
 Pa.rb_mk ⟨18,0,0,0,Mill.ba [],2⟩ [t,t2] [v,v2] _ (by simp) (by simp) ⟨v,v2,rfl,rfl⟩ (Pa.rbs_two h h2) (by simp)
theorem Pa.rb_do {B:Nat} {va:Option Addr} {vc:Nat} {l:List Mill.Tr} (x:List UInt8) (h:Pa.Kr B W va vc l) (hl:l.length≤100000):Pa.Rb B W (Pa.br 20 0 0 [] [Pa.br 7 0 0 x l]) (.iface 190 (.agg #[.string (Mill.ba x),.slice va l.length vc])) :=
 Pa.rb_mk ⟨20,0,0,0,Mill.ba [],1⟩ [Pa.br 7 0 0 x l] [.iface 168 (.agg #[.string (Mill.ba x),.slice va l.length vc])] _ (by simp) (by simp) ⟨Mill.ba x,.slice va l.length vc,rfl,rfl⟩ (Pa.rbs_one (Pa.rb_call x h hl)) (by simp)
theorem Pa.rb_while {B:Nat} {t:Mill.Tr} {v:Value} {va:Option Addr} {vc:Nat} {l:List Mill.Tr} (h:Pa.Rb B W t v) (h2:Pa.Kr B W va vc l) (hl:l.length≤100000):Pa.Rb B W (Pa.br 13 0 0 [] [t,Pa.br 21 0 0 [] l]) (.iface 154 (.agg #[v,.slice va l.length vc])) :=
 Pa.rb_mk ⟨13,0,0,0,Mill.ba [],2⟩ [t,Pa.br 21 0 0 [] l] [v,.iface 77 (.agg #[.slice va l.length vc])] _ (by simp) (by simp) ⟨v,.slice va l.length vc,rfl,rfl⟩ (Pa.rbs_two h (Pa.rb_block h2 hl)) (by simp)
theorem Pa.short_any (hG:Pa.Good ts) (n:Nat) (r:Except Nat (Mill.Tr × Nat)) (hr:Pa.short ts (n+1) i=some r) (hB:Pa.Tb g w) (hP:Pa.P ts g a c E i w) :
  Calls Tryz.prog 121 #[.pointer (some ⟨g,0,none⟩)] w (Pa.Ans ts g a c E r w):=by
 have hT:Pa.Pt ts g a c E i w w:=⟨hP,Pa.Fr.refl _ _⟩
 have hgw:=hP.lt
 rw [Pa.short] at hr
 cases h1:Pa.st ts 2 [108,101,116] i with
 | false =>
  simp only [h1,Bool.false_eq_true,if_false] at hr
  cases h2:Pa.st ts 2 [98,114,101,97,107] i with
  | false =>
   simp only [h2,Bool.false_eq_true,if_false] at hr
   cases h3:Pa.st ts 2 [99,111,110,116,105,110,117,101] i with
   | false =>
    simp only [h3,Bool.false_eq_true,if_false] at hr
    cases h4:Pa.st ts 2 [114,101,116,117,114,110] i with
    | false =>
     simp only [h4,Bool.false_eq_true,if_false] at hr
     cases h5:Pa.st ts 2 [102,97,105,108] i with
     | false =>
      simp only [h5,Bool.false_eq_true,if_false] at hr
      cases h6:Pa.st ts 2 [119,114,105,116,101] i with
      | false =>
       simp only [h6,Bool.false_eq_true,if_false] at hr
       cases h7:Pa.st ts 2 [115,97,121] i with
       | false =>
        simp only [h7,Bool.false_eq_true,if_false] at hr
        by_cases h8:¬ Pa.kd ts i=1
        ·simp only [Pa.iname,h8,if_false,Pa.bd_err',Option.some.injEq] at hr
         subst hr
         have mk1:True:=trivial
         have mk2:True:=trivial
         have mk3:True:=trivial
         have mk4:True:=trivial
         have mk5:True:=trivial
         have mk6:True:=trivial
         have mk7:True:=trivial
         have mk8:True:=trivial
         go_enter Tryz.func121,Tryz.ntmps121
         go_wp2_with (first | (have _t:=mk1;go_at_call 93;refine (Pa.takesW_any [108,101,116] hT.1).mono ?_;rintro e W1 ⟨rfl,hT'⟩;rw [h1] at hT' ⊢;replace hT:Pa.Pt ts g a c E i w W1:=hT.to hT';clear hT';clear mk1) | (have _t:=mk2;go_at_call 93;refine (Pa.takesW_any [98,114,101,97,107] hT.1).mono ?_;rintro e W1 ⟨rfl,hT'⟩;rw [h2] at hT' ⊢;replace hT:Pa.Pt ts g a c E i w W1:=hT.to hT';clear hT';clear mk2) | (have _t:=mk3;go_at_call 93;refine (Pa.takesW_any [99,111,110,116,105,110,117,101] hT.1).mono ?_;rintro e W1 ⟨rfl,hT'⟩;rw [h3] at hT' ⊢;replace hT:Pa.Pt ts g a c E i w W1:=hT.to hT';clear hT';clear mk3) | (have _t:=mk4;go_at_call 93;refine (Pa.takesW_any [114,101,116,117,114,110] hT.1).mono ?_;rintro e W1 ⟨rfl,hT'⟩;rw [h4] at hT' ⊢;replace hT:Pa.Pt ts g a c E i w W1:=hT.to hT';clear hT';clear mk4) | (have _t:=mk5;go_at_call 93;refine (Pa.takesW_any [102,97,105,108] hT.1).mono ?_;rintro e W1 ⟨rfl,hT'⟩;rw [h5] at hT' ⊢;replace hT:Pa.Pt ts g a c E i w W1:=hT.to hT';clear hT';clear mk5) | (have _t:=mk6;go_at_call 93;refine (Pa.takesW_any [119,114,105,116,101] hT.1).mono ?_;rintro e W1 ⟨rfl,hT'⟩;rw [h6] at hT' ⊢;replace hT:Pa.Pt ts g a c E i w W1:=hT.to hT';clear hT';clear mk6) | (have _t:=mk7;go_at_call 93;refine (Pa.takesW_any [115,97,121] hT.1).mono ?_;rintro e W1 ⟨rfl,hT'⟩;rw [h7] at hT' ⊢;replace hT:Pa.Pt ts g a c E i w W1:=hT.to hT';clear hT';clear mk7) | (have _t:=mk8;go_at_call 66;refine (Pa.iname_no h8 hT.1).mono ?_;rintro e W1 ⟨rfl,hT'⟩;have hF:=(hT.to hT').2;unfold Pa.pan;clear mk8))
         exact ⟨rfl,rfl,hF⟩
        replace h8:Pa.kd ts i=1:=Decidable.not_not.mp h8
        simp only [Pa.iname,h8,if_true,Pa.bd_ok'] at hr
        cases h9:Pa.st ts 5 [61] (i+1) with
        | false =>
         simp only [h9,Bool.false_eq_true,if_false] at hr
         cases h10:Pa.call ts n (i+1) with
         | none=>rw [h10,Pa.bd_none] at hr;simp at hr
         | some q10 =>
          rw [h10] at hr
          have HE10:Hid (∀ W,Pa.Tb g W→Pa.P ts g a c E (i+1) W→Calls Tryz.prog 138 #[.pointer (some ⟨g,0,none⟩),.string (Mill.ba (Pa.tx ts i))] W (Pa.AnsC ts g a c E (Pa.tx ts i) q10 W)):=fun W hb hp=>Pa.clr_any hG n (Pa.tx ts i) q10 h10 hb hp
          cases q10 with
          | error e1 =>
           rw [Pa.bd_err,Option.some.injEq] at hr
           subst hr
           have mk1:True:=trivial
           have mk2:True:=trivial
           have mk3:True:=trivial
           have mk4:True:=trivial
           have mk5:True:=trivial
           have mk6:True:=trivial
           have mk7:True:=trivial
           have mk8:True:=trivial
           have mk9:True:=trivial
           have mk10:True:=trivial
           go_enter Tryz.func121,Tryz.ntmps121
           go_wp2_with (first | (have _t:=mk1;go_at_call 93;refine (Pa.takesW_any [108,101,116] hT.1).mono ?_;rintro e W1 ⟨rfl,hT'⟩;rw [h1] at hT' ⊢;replace hT:Pa.Pt ts g a c E i w W1:=hT.to hT';clear hT';clear mk1) | (have _t:=mk2;go_at_call 93;refine (Pa.takesW_any [98,114,101,97,107] hT.1).mono ?_;rintro e W1 ⟨rfl,hT'⟩;rw [h2] at hT' ⊢;replace hT:Pa.Pt ts g a c E i w W1:=hT.to hT';clear hT';clear mk2) | (have _t:=mk3;go_at_call 93;refine (Pa.takesW_any [99,111,110,116,105,110,117,101] hT.1).mono ?_;rintro e W1 ⟨rfl,hT'⟩;rw [h3] at hT' ⊢;replace hT:Pa.Pt ts g a c E i w W1:=hT.to hT';clear hT';clear mk3) | (have _t:=mk4;go_at_call 93;refine (Pa.takesW_any [114,101,116,117,114,110] hT.1).mono ?_;rintro e W1 ⟨rfl,hT'⟩;rw [h4] at hT' ⊢;replace hT:Pa.Pt ts g a c E i w W1:=hT.to hT';clear hT';clear mk4) | (have _t:=mk5;go_at_call 93;refine (Pa.takesW_any [102,97,105,108] hT.1).mono ?_;rintro e W1 ⟨rfl,hT'⟩;rw [h5] at hT' ⊢;replace hT:Pa.Pt ts g a c E i w W1:=hT.to hT';clear hT';clear mk5) | (have _t:=mk6;go_at_call 93;refine (Pa.takesW_any [119,114,105,116,101] hT.1).mono ?_;rintro e W1 ⟨rfl,hT'⟩;rw [h6] at hT' ⊢;replace hT:Pa.Pt ts g a c E i w W1:=hT.to hT';clear hT';clear mk6) | (have _t:=mk7;go_at_call 93;refine (Pa.takesW_any [115,97,121] hT.1).mono ?_;rintro e W1 ⟨rfl,hT'⟩;rw [h7] at hT' ⊢;replace hT:Pa.Pt ts g a c E i w W1:=hT.to hT';clear hT';clear mk7) | (have _t:=mk8;go_at_call 66;refine (Pa.iname_ok h8 hT.1).mono ?_;rintro e W1 ⟨rfl,hT'⟩;replace hT:=hT.to hT';clear hT';clear mk8) | (have _t:=mk9;go_at_call 68;refine (Pa.takesM_any [61] hT.1).mono ?_;rintro e W1 ⟨rfl,hT'⟩;rw [h9] at hT' ⊢;replace hT:Pa.Pt ts g a c E (i+1) w W1:=hT.to hT';clear hT';clear mk9) | (have _t:=mk10;go_at_call 138;refine (HE10.out _ (hB.fr hT.2) hT.1).mono ?_;rintro e V ⟨rfl,hF'⟩;have hF:=hT.2.trans hF';unfold Pa.pan;clear mk10))
           exact ⟨rfl,rfl,hF⟩
          | ok x10 =>
           rw [Pa.bd_ok] at hr
           simp only [Option.some.injEq] at hr
           subst hr
           have mk1:True:=trivial
           have mk2:True:=trivial
           have mk3:True:=trivial
           have mk4:True:=trivial
           have mk5:True:=trivial
           have mk6:True:=trivial
           have mk7:True:=trivial
           have mk8:True:=trivial
           have mk9:True:=trivial
           have mk10:True:=trivial
           go_enter Tryz.func121,Tryz.ntmps121
           go_wp2_with (first | (have _t:=mk1;go_at_call 93;refine (Pa.takesW_any [108,101,116] hT.1).mono ?_;rintro e W1 ⟨rfl,hT'⟩;rw [h1] at hT' ⊢;replace hT:Pa.Pt ts g a c E i w W1:=hT.to hT';clear hT';clear mk1) | (have _t:=mk2;go_at_call 93;refine (Pa.takesW_any [98,114,101,97,107] hT.1).mono ?_;rintro e W1 ⟨rfl,hT'⟩;rw [h2] at hT' ⊢;replace hT:Pa.Pt ts g a c E i w W1:=hT.to hT';clear hT';clear mk2) | (have _t:=mk3;go_at_call 93;refine (Pa.takesW_any [99,111,110,116,105,110,117,101] hT.1).mono ?_;rintro e W1 ⟨rfl,hT'⟩;rw [h3] at hT' ⊢;replace hT:Pa.Pt ts g a c E i w W1:=hT.to hT';clear hT';clear mk3) | (have _t:=mk4;go_at_call 93;refine (Pa.takesW_any [114,101,116,117,114,110] hT.1).mono ?_;rintro e W1 ⟨rfl,hT'⟩;rw [h4] at hT' ⊢;replace hT:Pa.Pt ts g a c E i w W1:=hT.to hT';clear hT';clear mk4) | (have _t:=mk5;go_at_call 93;refine (Pa.takesW_any [102,97,105,108] hT.1).mono ?_;rintro e W1 ⟨rfl,hT'⟩;rw [h5] at hT' ⊢;replace hT:Pa.Pt ts g a c E i w W1:=hT.to hT';clear hT';clear mk5) | (have _t:=mk6;go_at_call 93;refine (Pa.takesW_any [119,114,105,116,101] hT.1).mono ?_;rintro e W1 ⟨rfl,hT'⟩;rw [h6] at hT' ⊢;replace hT:Pa.Pt ts g a c E i w W1:=hT.to hT';clear hT';clear mk6) | (have _t:=mk7;go_at_call 93;refine (Pa.takesW_any [115,97,121] hT.1).mono ?_;rintro e W1 ⟨rfl,hT'⟩;rw [h7] at hT' ⊢;replace hT:Pa.Pt ts g a c E i w W1:=hT.to hT';clear hT';clear mk7) | (have _t:=mk8;go_at_call 66;refine (Pa.iname_ok h8 hT.1).mono ?_;rintro e W1 ⟨rfl,hT'⟩;replace hT:=hT.to hT';clear hT';clear mk8) | (have _t:=mk9;go_at_call 68;refine (Pa.takesM_any [61] hT.1).mono ?_;rintro e W1 ⟨rfl,hT'⟩;rw [h9] at hT' ⊢;replace hT:Pa.Pt ts g a c E (i+1) w W1:=hT.to hT';clear hT';clear mk9) | (have _t:=mk10;go_at_call 138;refine (HE10.out _ (hB.fr hT.2) hT.1).mono ?_;rintro e V ⟨va10,vc10,rfl,hK10,hT'⟩;replace hK10:=hK10.mono hT.2.size;replace hT:=hT.to hT';clear hT';clear mk10))
           go_ret
           have hl3:=Pa.call_len h10
           have hl4:=hT.1.le
           have hl5:=hT.1.len
           exact ⟨_,_,rfl,Pa.rb_do _ hK10 (by omega),hT⟩
        | true =>
         simp only [h9,if_true] at hr
         cases h11:Pa.rank ts n 1 ((i+1)+1) with
         | none=>rw [h11,Pa.bd_none] at hr;simp at hr
         | some q11 =>
          rw [h11] at hr
          have HE11:Hid (∀ W,Pa.Tb g W→Pa.P ts g a c E ((i+1)+1) W→Calls Tryz.prog 120 #[.pointer (some ⟨g,0,none⟩)] W (Pa.Ans ts g a c E q11 W)):=fun W hb hp=>Pa.val_any hG n q11 h11 hb hp
          cases q11 with
          | error e1 =>
           rw [Pa.bd_err,Option.some.injEq] at hr
           subst hr
           have mk1:True:=trivial
           have mk2:True:=trivial
           have mk3:True:=trivial
           have mk4:True:=trivial
           have mk5:True:=trivial
           have mk6:True:=trivial
           have mk7:True:=trivial
           have mk8:True:=trivial
           have mk9:True:=trivial
           have mk11:True:=trivial
           go_enter Tryz.func121,Tryz.ntmps121
           go_wp2_with (first | (have _t:=mk1;go_at_call 93;refine (Pa.takesW_any [108,101,116] hT.1).mono ?_;rintro e W1 ⟨rfl,hT'⟩;rw [h1] at hT' ⊢;replace hT:Pa.Pt ts g a c E i w W1:=hT.to hT';clear hT';clear mk1) | (have _t:=mk2;go_at_call 93;refine (Pa.takesW_any [98,114,101,97,107] hT.1).mono ?_;rintro e W1 ⟨rfl,hT'⟩;rw [h2] at hT' ⊢;replace hT:Pa.Pt ts g a c E i w W1:=hT.to hT';clear hT';clear mk2) | (have _t:=mk3;go_at_call 93;refine (Pa.takesW_any [99,111,110,116,105,110,117,101] hT.1).mono ?_;rintro e W1 ⟨rfl,hT'⟩;rw [h3] at hT' ⊢;replace hT:Pa.Pt ts g a c E i w W1:=hT.to hT';clear hT';clear mk3) | (have _t:=mk4;go_at_call 93;refine (Pa.takesW_any [114,101,116,117,114,110] hT.1).mono ?_;rintro e W1 ⟨rfl,hT'⟩;rw [h4] at hT' ⊢;replace hT:Pa.Pt ts g a c E i w W1:=hT.to hT';clear hT';clear mk4) | (have _t:=mk5;go_at_call 93;refine (Pa.takesW_any [102,97,105,108] hT.1).mono ?_;rintro e W1 ⟨rfl,hT'⟩;rw [h5] at hT' ⊢;replace hT:Pa.Pt ts g a c E i w W1:=hT.to hT';clear hT';clear mk5) | (have _t:=mk6;go_at_call 93;refine (Pa.takesW_any [119,114,105,116,101] hT.1).mono ?_;rintro e W1 ⟨rfl,hT'⟩;rw [h6] at hT' ⊢;replace hT:Pa.Pt ts g a c E i w W1:=hT.to hT';clear hT';clear mk6) | (have _t:=mk7;go_at_call 93;refine (Pa.takesW_any [115,97,121] hT.1).mono ?_;rintro e W1 ⟨rfl,hT'⟩;rw [h7] at hT' ⊢;replace hT:Pa.Pt ts g a c E i w W1:=hT.to hT';clear hT';clear mk7) | (have _t:=mk8;go_at_call 66;refine (Pa.iname_ok h8 hT.1).mono ?_;rintro e W1 ⟨rfl,hT'⟩;replace hT:=hT.to hT';clear hT';clear mk8) | (have _t:=mk9;go_at_call 68;refine (Pa.takesM_any [61] hT.1).mono ?_;rintro e W1 ⟨rfl,hT'⟩;rw [h9] at hT' ⊢;replace hT:Pa.Pt ts g a c E ((i+1)+1) w W1:=hT.to hT';clear hT';clear mk9) | (have _t:=mk11;go_at_call 120;refine (HE11.out _ (hB.fr hT.2) hT.1).mono ?_;rintro e V ⟨rfl,hF'⟩;have hF:=hT.2.trans hF';unfold Pa.pan;clear mk11))
           exact ⟨rfl,rfl,hF⟩
          | ok x11 =>
           rw [Pa.bd_ok] at hr
           simp only [Option.some.injEq] at hr
           subst hr
           have mk1:True:=trivial
           have mk2:True:=trivial
           have mk3:True:=trivial
           have mk4:True:=trivial
           have mk5:True:=trivial
           have mk6:True:=trivial
           have mk7:True:=trivial
           have mk8:True:=trivial
           have mk9:True:=trivial
           have mk11:True:=trivial
           go_enter Tryz.func121,Tryz.ntmps121
           go_wp2_with (first | (have _t:=mk1;go_at_call 93;refine (Pa.takesW_any [108,101,116] hT.1).mono ?_;rintro e W1 ⟨rfl,hT'⟩;rw [h1] at hT' ⊢;replace hT:Pa.Pt ts g a c E i w W1:=hT.to hT';clear hT';clear mk1) | (have _t:=mk2;go_at_call 93;refine (Pa.takesW_any [98,114,101,97,107] hT.1).mono ?_;rintro e W1 ⟨rfl,hT'⟩;rw [h2] at hT' ⊢;replace hT:Pa.Pt ts g a c E i w W1:=hT.to hT';clear hT';clear mk2) | (have _t:=mk3;go_at_call 93;refine (Pa.takesW_any [99,111,110,116,105,110,117,101] hT.1).mono ?_;rintro e W1 ⟨rfl,hT'⟩;rw [h3] at hT' ⊢;replace hT:Pa.Pt ts g a c E i w W1:=hT.to hT';clear hT';clear mk3) | (have _t:=mk4;go_at_call 93;refine (Pa.takesW_any [114,101,116,117,114,110] hT.1).mono ?_;rintro e W1 ⟨rfl,hT'⟩;rw [h4] at hT' ⊢;replace hT:Pa.Pt ts g a c E i w W1:=hT.to hT';clear hT';clear mk4) | (have _t:=mk5;go_at_call 93;refine (Pa.takesW_any [102,97,105,108] hT.1).mono ?_;rintro e W1 ⟨rfl,hT'⟩;rw [h5] at hT' ⊢;replace hT:Pa.Pt ts g a c E i w W1:=hT.to hT';clear hT';clear mk5) | (have _t:=mk6;go_at_call 93;refine (Pa.takesW_any [119,114,105,116,101] hT.1).mono ?_;rintro e W1 ⟨rfl,hT'⟩;rw [h6] at hT' ⊢;replace hT:Pa.Pt ts g a c E i w W1:=hT.to hT';clear hT';clear mk6) | (have _t:=mk7;go_at_call 93;refine (Pa.takesW_any [115,97,121] hT.1).mono ?_;rintro e W1 ⟨rfl,hT'⟩;rw [h7] at hT' ⊢;replace hT:Pa.Pt ts g a c E i w W1:=hT.to hT';clear hT';clear mk7) | (have _t:=mk8;go_at_call 66;refine (Pa.iname_ok h8 hT.1).mono ?_;rintro e W1 ⟨rfl,hT'⟩;replace hT:=hT.to hT';clear hT';clear mk8) | (have _t:=mk9;go_at_call 68;refine (Pa.takesM_any [61] hT.1).mono ?_;rintro e W1 ⟨rfl,hT'⟩;rw [h9] at hT' ⊢;replace hT:Pa.Pt ts g a c E ((i+1)+1) w W1:=hT.to hT';clear hT';clear mk9) | (have _t:=mk11;go_at_call 120;refine (HE11.out _ (hB.fr hT.2) hT.1).mono ?_;rintro e V ⟨ty11,y11,rfl,hR11,hT'⟩;replace hR11:=hR11.mono hT.2.size;replace hT:=hT.to hT';clear hT';clear mk11))
           go_ret
           exact ⟨_,_,rfl,Pa.rb_set _ hR11,hT⟩
       | true =>
        simp only [h7,if_true] at hr
        cases h12:Pa.rank ts n 1 (i+1) with
        | none=>rw [h12,Pa.bd_none] at hr;simp at hr
        | some q12 =>
         rw [h12] at hr
         have HE12:Hid (∀ W,Pa.Tb g W→Pa.P ts g a c E (i+1) W→Calls Tryz.prog 120 #[.pointer (some ⟨g,0,none⟩)] W (Pa.Ans ts g a c E q12 W)):=fun W hb hp=>Pa.val_any hG n q12 h12 hb hp
         cases q12 with
         | error e1 =>
          rw [Pa.bd_err,Option.some.injEq] at hr
          subst hr
          have mk1:True:=trivial
          have mk2:True:=trivial
          have mk3:True:=trivial
          have mk4:True:=trivial
          have mk5:True:=trivial
          have mk6:True:=trivial
          have mk7:True:=trivial
          have mk12:True:=trivial
          go_enter Tryz.func121,Tryz.ntmps121
          go_wp2_with (first | (have _t:=mk1;go_at_call 93;refine (Pa.takesW_any [108,101,116] hT.1).mono ?_;rintro e W1 ⟨rfl,hT'⟩;rw [h1] at hT' ⊢;replace hT:Pa.Pt ts g a c E i w W1:=hT.to hT';clear hT';clear mk1) | (have _t:=mk2;go_at_call 93;refine (Pa.takesW_any [98,114,101,97,107] hT.1).mono ?_;rintro e W1 ⟨rfl,hT'⟩;rw [h2] at hT' ⊢;replace hT:Pa.Pt ts g a c E i w W1:=hT.to hT';clear hT';clear mk2) | (have _t:=mk3;go_at_call 93;refine (Pa.takesW_any [99,111,110,116,105,110,117,101] hT.1).mono ?_;rintro e W1 ⟨rfl,hT'⟩;rw [h3] at hT' ⊢;replace hT:Pa.Pt ts g a c E i w W1:=hT.to hT';clear hT';clear mk3) | (have _t:=mk4;go_at_call 93;refine (Pa.takesW_any [114,101,116,117,114,110] hT.1).mono ?_;rintro e W1 ⟨rfl,hT'⟩;rw [h4] at hT' ⊢;replace hT:Pa.Pt ts g a c E i w W1:=hT.to hT';clear hT';clear mk4) | (have _t:=mk5;go_at_call 93;refine (Pa.takesW_any [102,97,105,108] hT.1).mono ?_;rintro e W1 ⟨rfl,hT'⟩;rw [h5] at hT' ⊢;replace hT:Pa.Pt ts g a c E i w W1:=hT.to hT';clear hT';clear mk5) | (have _t:=mk6;go_at_call 93;refine (Pa.takesW_any [119,114,105,116,101] hT.1).mono ?_;rintro e W1 ⟨rfl,hT'⟩;rw [h6] at hT' ⊢;replace hT:Pa.Pt ts g a c E i w W1:=hT.to hT';clear hT';clear mk6) | (have _t:=mk7;go_at_call 93;refine (Pa.takesW_any [115,97,121] hT.1).mono ?_;rintro e W1 ⟨rfl,hT'⟩;rw [h7] at hT' ⊢;replace hT:Pa.Pt ts g a c E (i+1) w W1:=hT.to hT';clear hT';clear mk7) | (have _t:=mk12;go_at_call 120;refine (HE12.out _ (hB.fr hT.2) hT.1).mono ?_;rintro e V ⟨rfl,hF'⟩;have hF:=hT.2.trans hF';unfold Pa.pan;clear mk12))
          exact ⟨rfl,rfl,hF⟩
         | ok x12 =>
          rw [Pa.bd_ok] at hr
          simp only [Option.some.injEq] at hr
          subst hr
          have mk1:True:=trivial
          have mk2:True:=trivial
          have mk3:True:=trivial
          have mk4:True:=trivial
          have mk5:True:=trivial
          have mk6:True:=trivial
          have mk7:True:=trivial
          have mk12:True:=trivial
          go_enter Tryz.func121,Tryz.ntmps121
          go_wp2_with (first | (have _t:=mk1;go_at_call 93;refine (Pa.takesW_any [108,101,116] hT.1).mono ?_;rintro e W1 ⟨rfl,hT'⟩;rw [h1] at hT' ⊢;replace hT:Pa.Pt ts g a c E i w W1:=hT.to hT';clear hT';clear mk1) | (have _t:=mk2;go_at_call 93;refine (Pa.takesW_any [98,114,101,97,107] hT.1).mono ?_;rintro e W1 ⟨rfl,hT'⟩;rw [h2] at hT' ⊢;replace hT:Pa.Pt ts g a c E i w W1:=hT.to hT';clear hT';clear mk2) | (have _t:=mk3;go_at_call 93;refine (Pa.takesW_any [99,111,110,116,105,110,117,101] hT.1).mono ?_;rintro e W1 ⟨rfl,hT'⟩;rw [h3] at hT' ⊢;replace hT:Pa.Pt ts g a c E i w W1:=hT.to hT';clear hT';clear mk3) | (have _t:=mk4;go_at_call 93;refine (Pa.takesW_any [114,101,116,117,114,110] hT.1).mono ?_;rintro e W1 ⟨rfl,hT'⟩;rw [h4] at hT' ⊢;replace hT:Pa.Pt ts g a c E i w W1:=hT.to hT';clear hT';clear mk4) | (have _t:=mk5;go_at_call 93;refine (Pa.takesW_any [102,97,105,108] hT.1).mono ?_;rintro e W1 ⟨rfl,hT'⟩;rw [h5] at hT' ⊢;replace hT:Pa.Pt ts g a c E i w W1:=hT.to hT';clear hT';clear mk5) | (have _t:=mk6;go_at_call 93;refine (Pa.takesW_any [119,114,105,116,101] hT.1).mono ?_;rintro e W1 ⟨rfl,hT'⟩;rw [h6] at hT' ⊢;replace hT:Pa.Pt ts g a c E i w W1:=hT.to hT';clear hT';clear mk6) | (have _t:=mk7;go_at_call 93;refine (Pa.takesW_any [115,97,121] hT.1).mono ?_;rintro e W1 ⟨rfl,hT'⟩;rw [h7] at hT' ⊢;replace hT:Pa.Pt ts g a c E (i+1) w W1:=hT.to hT';clear hT';clear mk7) | (have _t:=mk12;go_at_call 120;refine (HE12.out _ (hB.fr hT.2) hT.1).mono ?_;rintro e V ⟨ty12,y12,rfl,hR12,hT'⟩;replace hR12:=hR12.mono hT.2.size;replace hT:=hT.to hT';clear hT';clear mk12))
          go_ret
          exact ⟨_,_,rfl,Pa.rb_say hR12,hT⟩
      | true =>
       simp only [h6,if_true] at hr
       cases h13:Pa.rank ts n 1 (i+1) with
       | none=>rw [h13,Pa.bd_none] at hr;simp at hr
       | some q13 =>
        rw [h13] at hr
        have HE13:Hid (∀ W,Pa.Tb g W→Pa.P ts g a c E (i+1) W→Calls Tryz.prog 120 #[.pointer (some ⟨g,0,none⟩)] W (Pa.Ans ts g a c E q13 W)):=fun W hb hp=>Pa.val_any hG n q13 h13 hb hp
        cases q13 with
        | error e1 =>
         rw [Pa.bd_err,Option.some.injEq] at hr
         subst hr
         have mk1:True:=trivial
         have mk2:True:=trivial
         have mk3:True:=trivial
         have mk4:True:=trivial
         have mk5:True:=trivial
         have mk6:True:=trivial
         have mk13:True:=trivial
         go_enter Tryz.func121,Tryz.ntmps121
         go_wp2_with (first | (have _t:=mk1;go_at_call 93;refine (Pa.takesW_any [108,101,116] hT.1).mono ?_;rintro e W1 ⟨rfl,hT'⟩;rw [h1] at hT' ⊢;replace hT:Pa.Pt ts g a c E i w W1:=hT.to hT';clear hT';clear mk1) | (have _t:=mk2;go_at_call 93;refine (Pa.takesW_any [98,114,101,97,107] hT.1).mono ?_;rintro e W1 ⟨rfl,hT'⟩;rw [h2] at hT' ⊢;replace hT:Pa.Pt ts g a c E i w W1:=hT.to hT';clear hT';clear mk2) | (have _t:=mk3;go_at_call 93;refine (Pa.takesW_any [99,111,110,116,105,110,117,101] hT.1).mono ?_;rintro e W1 ⟨rfl,hT'⟩;rw [h3] at hT' ⊢;replace hT:Pa.Pt ts g a c E i w W1:=hT.to hT';clear hT';clear mk3) | (have _t:=mk4;go_at_call 93;refine (Pa.takesW_any [114,101,116,117,114,110] hT.1).mono ?_;rintro e W1 ⟨rfl,hT'⟩;rw [h4] at hT' ⊢;replace hT:Pa.Pt ts g a c E i w W1:=hT.to hT';clear hT';clear mk4) | (have _t:=mk5;go_at_call 93;refine (Pa.takesW_any [102,97,105,108] hT.1).mono ?_;rintro e W1 ⟨rfl,hT'⟩;rw [h5] at hT' ⊢;replace hT:Pa.Pt ts g a c E i w W1:=hT.to hT';clear hT';clear mk5) | (have _t:=mk6;go_at_call 93;refine (Pa.takesW_any [119,114,105,116,101] hT.1).mono ?_;rintro e W1 ⟨rfl,hT'⟩;rw [h6] at hT' ⊢;replace hT:Pa.Pt ts g a c E (i+1) w W1:=hT.to hT';clear hT';clear mk6) | (have _t:=mk13;go_at_call 120;refine (HE13.out _ (hB.fr hT.2) hT.1).mono ?_;rintro e V ⟨rfl,hF'⟩;have hF:=hT.2.trans hF';unfold Pa.pan;clear mk13))
         exact ⟨rfl,rfl,hF⟩
        | ok x13 =>
         rw [Pa.bd_ok] at hr
         cases h14:Pa.st ts 5 [44] x13.2 with
         | false =>
          rw [Pa.nd_no h14,Pa.bd_err,Option.some.injEq] at hr
          subst hr
          have mk1:True:=trivial
          have mk2:True:=trivial
          have mk3:True:=trivial
          have mk4:True:=trivial
          have mk5:True:=trivial
          have mk6:True:=trivial
          have mk13:True:=trivial
          have mk14:True:=trivial
          go_enter Tryz.func121,Tryz.ntmps121
          go_wp2_with (first | (have _t:=mk1;go_at_call 93;refine (Pa.takesW_any [108,101,116] hT.1).mono ?_;rintro e W1 ⟨rfl,hT'⟩;rw [h1] at hT' ⊢;replace hT:Pa.Pt ts g a c E i w W1:=hT.to hT';clear hT';clear mk1) | (have _t:=mk2;go_at_call 93;refine (Pa.takesW_any [98,114,101,97,107] hT.1).mono ?_;rintro e W1 ⟨rfl,hT'⟩;rw [h2] at hT' ⊢;replace hT:Pa.Pt ts g a c E i w W1:=hT.to hT';clear hT';clear mk2) | (have _t:=mk3;go_at_call 93;refine (Pa.takesW_any [99,111,110,116,105,110,117,101] hT.1).mono ?_;rintro e W1 ⟨rfl,hT'⟩;rw [h3] at hT' ⊢;replace hT:Pa.Pt ts g a c E i w W1:=hT.to hT';clear hT';clear mk3) | (have _t:=mk4;go_at_call 93;refine (Pa.takesW_any [114,101,116,117,114,110] hT.1).mono ?_;rintro e W1 ⟨rfl,hT'⟩;rw [h4] at hT' ⊢;replace hT:Pa.Pt ts g a c E i w W1:=hT.to hT';clear hT';clear mk4) | (have _t:=mk5;go_at_call 93;refine (Pa.takesW_any [102,97,105,108] hT.1).mono ?_;rintro e W1 ⟨rfl,hT'⟩;rw [h5] at hT' ⊢;replace hT:Pa.Pt ts g a c E i w W1:=hT.to hT';clear hT';clear mk5) | (have _t:=mk6;go_at_call 93;refine (Pa.takesW_any [119,114,105,116,101] hT.1).mono ?_;rintro e W1 ⟨rfl,hT'⟩;rw [h6] at hT' ⊢;replace hT:Pa.Pt ts g a c E (i+1) w W1:=hT.to hT';clear hT';clear mk6) | (have _t:=mk13;go_at_call 120;refine (HE13.out _ (hB.fr hT.2) hT.1).mono ?_;rintro e V ⟨ty13,y13,rfl,hR13,hT'⟩;replace hR13:=hR13.mono hT.2.size;replace hT:=hT.to hT';clear hT';clear mk13) | (have _t:=mk14;go_at_call 67;refine (Pa.needsM_no [44] h14 hT.1).mono ?_;rintro e W1 ⟨rfl,hT'⟩;have hF:=(hT.to hT').2;unfold Pa.pan;clear mk14))
          exact ⟨rfl,rfl,hF⟩
         | true =>
          rw [Pa.nd_yes h14,Pa.bd_ok] at hr
          simp only at hr
          cases h15:Pa.rank ts n 1 (x13.2+1) with
          | none=>rw [h15,Pa.bd_none] at hr;simp at hr
          | some q15 =>
           rw [h15] at hr
           have HE15:Hid (∀ W,Pa.Tb g W→Pa.P ts g a c E (x13.2+1) W→Calls Tryz.prog 120 #[.pointer (some ⟨g,0,none⟩)] W (Pa.Ans ts g a c E q15 W)):=fun W hb hp=>Pa.val_any hG n q15 h15 hb hp
           cases q15 with
           | error e1 =>
            rw [Pa.bd_err,Option.some.injEq] at hr
            subst hr
            have mk1:True:=trivial
            have mk2:True:=trivial
            have mk3:True:=trivial
            have mk4:True:=trivial
            have mk5:True:=trivial
            have mk6:True:=trivial
            have mk13:True:=trivial
            have mk14:True:=trivial
            have mk15:True:=trivial
            go_enter Tryz.func121,Tryz.ntmps121
            go_wp2_with (first | (have _t:=mk1;go_at_call 93;refine (Pa.takesW_any [108,101,116] hT.1).mono ?_;rintro e W1 ⟨rfl,hT'⟩;rw [h1] at hT' ⊢;replace hT:Pa.Pt ts g a c E i w W1:=hT.to hT';clear hT';clear mk1) | (have _t:=mk2;go_at_call 93;refine (Pa.takesW_any [98,114,101,97,107] hT.1).mono ?_;rintro e W1 ⟨rfl,hT'⟩;rw [h2] at hT' ⊢;replace hT:Pa.Pt ts g a c E i w W1:=hT.to hT';clear hT';clear mk2) | (have _t:=mk3;go_at_call 93;refine (Pa.takesW_any [99,111,110,116,105,110,117,101] hT.1).mono ?_;rintro e W1 ⟨rfl,hT'⟩;rw [h3] at hT' ⊢;replace hT:Pa.Pt ts g a c E i w W1:=hT.to hT';clear hT';clear mk3) | (have _t:=mk4;go_at_call 93;refine (Pa.takesW_any [114,101,116,117,114,110] hT.1).mono ?_;rintro e W1 ⟨rfl,hT'⟩;rw [h4] at hT' ⊢;replace hT:Pa.Pt ts g a c E i w W1:=hT.to hT';clear hT';clear mk4) | (have _t:=mk5;go_at_call 93;refine (Pa.takesW_any [102,97,105,108] hT.1).mono ?_;rintro e W1 ⟨rfl,hT'⟩;rw [h5] at hT' ⊢;replace hT:Pa.Pt ts g a c E i w W1:=hT.to hT';clear hT';clear mk5) | (have _t:=mk6;go_at_call 93;refine (Pa.takesW_any [119,114,105,116,101] hT.1).mono ?_;rintro e W1 ⟨rfl,hT'⟩;rw [h6] at hT' ⊢;replace hT:Pa.Pt ts g a c E (i+1) w W1:=hT.to hT';clear hT';clear mk6) | (have _t:=mk13;go_at_call 120;refine (HE13.out _ (hB.fr hT.2) hT.1).mono ?_;rintro e V ⟨ty13,y13,rfl,hR13,hT'⟩;replace hR13:=hR13.mono hT.2.size;replace hT:=hT.to hT';clear hT';clear mk13) | (have _t:=mk14;go_at_call 67;refine (Pa.needsM_ok [44] h14 hT.1).mono ?_;rintro e W1 ⟨rfl,hT'⟩;replace hR13:=hR13.fr hT'.2 hgw;replace hT:=hT.to hT';clear hT';clear mk14) | (have _t:=mk15;go_at_call 120;refine (HE15.out _ (hB.fr hT.2) hT.1).mono ?_;rintro e V ⟨rfl,hF'⟩;have hF:=hT.2.trans hF';unfold Pa.pan;clear mk15))
            exact ⟨rfl,rfl,hF⟩
           | ok x15 =>
            rw [Pa.bd_ok] at hr
            simp only [Option.some.injEq] at hr
            subst hr
            have mk1:True:=trivial
            have mk2:True:=trivial
            have mk3:True:=trivial
            have mk4:True:=trivial
            have mk5:True:=trivial
            have mk6:True:=trivial
            have mk13:True:=trivial
            have mk14:True:=trivial
            have mk15:True:=trivial
            go_enter Tryz.func121,Tryz.ntmps121
            go_wp2_with (first | (have _t:=mk1;go_at_call 93;refine (Pa.takesW_any [108,101,116] hT.1).mono ?_;rintro e W1 ⟨rfl,hT'⟩;rw [h1] at hT' ⊢;replace hT:Pa.Pt ts g a c E i w W1:=hT.to hT';clear hT';clear mk1) | (have _t:=mk2;go_at_call 93;refine (Pa.takesW_any [98,114,101,97,107] hT.1).mono ?_;rintro e W1 ⟨rfl,hT'⟩;rw [h2] at hT' ⊢;replace hT:Pa.Pt ts g a c E i w W1:=hT.to hT';clear hT';clear mk2) | (have _t:=mk3;go_at_call 93;refine (Pa.takesW_any [99,111,110,116,105,110,117,101] hT.1).mono ?_;rintro e W1 ⟨rfl,hT'⟩;rw [h3] at hT' ⊢;replace hT:Pa.Pt ts g a c E i w W1:=hT.to hT';clear hT';clear mk3) | (have _t:=mk4;go_at_call 93;refine (Pa.takesW_any [114,101,116,117,114,110] hT.1).mono ?_;rintro e W1 ⟨rfl,hT'⟩;rw [h4] at hT' ⊢;replace hT:Pa.Pt ts g a c E i w W1:=hT.to hT';clear hT';clear mk4) | (have _t:=mk5;go_at_call 93;refine (Pa.takesW_any [102,97,105,108] hT.1).mono ?_;rintro e W1 ⟨rfl,hT'⟩;rw [h5] at hT' ⊢;replace hT:Pa.Pt ts g a c E i w W1:=hT.to hT';clear hT';clear mk5) | (have _t:=mk6;go_at_call 93;refine (Pa.takesW_any [119,114,105,116,101] hT.1).mono ?_;rintro e W1 ⟨rfl,hT'⟩;rw [h6] at hT' ⊢;replace hT:Pa.Pt ts g a c E (i+1) w W1:=hT.to hT';clear hT';clear mk6) | (have _t:=mk13;go_at_call 120;refine (HE13.out _ (hB.fr hT.2) hT.1).mono ?_;rintro e V ⟨ty13,y13,rfl,hR13,hT'⟩;replace hR13:=hR13.mono hT.2.size;replace hT:=hT.to hT';clear hT';clear mk13) | (have _t:=mk14;go_at_call 67;refine (Pa.needsM_ok [44] h14 hT.1).mono ?_;rintro e W1 ⟨rfl,hT'⟩;replace hR13:=hR13.fr hT'.2 hgw;replace hT:=hT.to hT';clear hT';clear mk14) | (have _t:=mk15;go_at_call 120;refine (HE15.out _ (hB.fr hT.2) hT.1).mono ?_;rintro e V ⟨ty15,y15,rfl,hR15,hT'⟩;replace hR15:=hR15.mono hT.2.size;replace hR13:=hR13.fr hT'.2 hgw;replace hT:=hT.to hT';clear hT';clear mk15))
            go_ret
            exact ⟨_,_,rfl,Pa.rb_write hR13 hR15,hT⟩
     | true =>
      simp only [h5,if_true] at hr
      cases h16:Pa.rank ts n 1 (i+1) with
      | none=>rw [h16,Pa.bd_none] at hr;simp at hr
      | some q16 =>
       rw [h16] at hr
       have HE16:Hid (∀ W,Pa.Tb g W→Pa.P ts g a c E (i+1) W→Calls Tryz.prog 120 #[.pointer (some ⟨g,0,none⟩)] W (Pa.Ans ts g a c E q16 W)):=fun W hb hp=>Pa.val_any hG n q16 h16 hb hp
       cases q16 with
       | error e1 =>
        rw [Pa.bd_err,Option.some.injEq] at hr
        subst hr
        have mk1:True:=trivial
        have mk2:True:=trivial
        have mk3:True:=trivial
        have mk4:True:=trivial
        have mk5:True:=trivial
        have mk16:True:=trivial
        go_enter Tryz.func121,Tryz.ntmps121
        go_wp2_with (first | (have _t:=mk1;go_at_call 93;refine (Pa.takesW_any [108,101,116] hT.1).mono ?_;rintro e W1 ⟨rfl,hT'⟩;rw [h1] at hT' ⊢;replace hT:Pa.Pt ts g a c E i w W1:=hT.to hT';clear hT';clear mk1) | (have _t:=mk2;go_at_call 93;refine (Pa.takesW_any [98,114,101,97,107] hT.1).mono ?_;rintro e W1 ⟨rfl,hT'⟩;rw [h2] at hT' ⊢;replace hT:Pa.Pt ts g a c E i w W1:=hT.to hT';clear hT';clear mk2) | (have _t:=mk3;go_at_call 93;refine (Pa.takesW_any [99,111,110,116,105,110,117,101] hT.1).mono ?_;rintro e W1 ⟨rfl,hT'⟩;rw [h3] at hT' ⊢;replace hT:Pa.Pt ts g a c E i w W1:=hT.to hT';clear hT';clear mk3) | (have _t:=mk4;go_at_call 93;refine (Pa.takesW_any [114,101,116,117,114,110] hT.1).mono ?_;rintro e W1 ⟨rfl,hT'⟩;rw [h4] at hT' ⊢;replace hT:Pa.Pt ts g a c E i w W1:=hT.to hT';clear hT';clear mk4) | (have _t:=mk5;go_at_call 93;refine (Pa.takesW_any [102,97,105,108] hT.1).mono ?_;rintro e W1 ⟨rfl,hT'⟩;rw [h5] at hT' ⊢;replace hT:Pa.Pt ts g a c E (i+1) w W1:=hT.to hT';clear hT';clear mk5) | (have _t:=mk16;go_at_call 120;refine (HE16.out _ (hB.fr hT.2) hT.1).mono ?_;rintro e V ⟨rfl,hF'⟩;have hF:=hT.2.trans hF';unfold Pa.pan;clear mk16))
        exact ⟨rfl,rfl,hF⟩
       | ok x16 =>
        rw [Pa.bd_ok] at hr
        simp only [Option.some.injEq] at hr
        subst hr
        have mk1:True:=trivial
        have mk2:True:=trivial
        have mk3:True:=trivial
        have mk4:True:=trivial
        have mk5:True:=trivial
        have mk16:True:=trivial
        go_enter Tryz.func121,Tryz.ntmps121
        go_wp2_with (first | (have _t:=mk1;go_at_call 93;refine (Pa.takesW_any [108,101,116] hT.1).mono ?_;rintro e W1 ⟨rfl,hT'⟩;rw [h1] at hT' ⊢;replace hT:Pa.Pt ts g a c E i w W1:=hT.to hT';clear hT';clear mk1) | (have _t:=mk2;go_at_call 93;refine (Pa.takesW_any [98,114,101,97,107] hT.1).mono ?_;rintro e W1 ⟨rfl,hT'⟩;rw [h2] at hT' ⊢;replace hT:Pa.Pt ts g a c E i w W1:=hT.to hT';clear hT';clear mk2) | (have _t:=mk3;go_at_call 93;refine (Pa.takesW_any [99,111,110,116,105,110,117,101] hT.1).mono ?_;rintro e W1 ⟨rfl,hT'⟩;rw [h3] at hT' ⊢;replace hT:Pa.Pt ts g a c E i w W1:=hT.to hT';clear hT';clear mk3) | (have _t:=mk4;go_at_call 93;refine (Pa.takesW_any [114,101,116,117,114,110] hT.1).mono ?_;rintro e W1 ⟨rfl,hT'⟩;rw [h4] at hT' ⊢;replace hT:Pa.Pt ts g a c E i w W1:=hT.to hT';clear hT';clear mk4) | (have _t:=mk5;go_at_call 93;refine (Pa.takesW_any [102,97,105,108] hT.1).mono ?_;rintro e W1 ⟨rfl,hT'⟩;rw [h5] at hT' ⊢;replace hT:Pa.Pt ts g a c E (i+1) w W1:=hT.to hT';clear hT';clear mk5) | (have _t:=mk16;go_at_call 120;refine (HE16.out _ (hB.fr hT.2) hT.1).mono ?_;rintro e V ⟨ty16,y16,rfl,hR16,hT'⟩;replace hR16:=hR16.mono hT.2.size;replace hT:=hT.to hT';clear hT';clear mk16))
        go_ret
        exact ⟨_,_,rfl,Pa.rb_fail hR16,hT⟩
    | true =>
     simp only [h4,if_true] at hr
     cases h17:Pa.st ts 5 [59] (i+1) with
     | false =>
      simp only [h17,Bool.false_eq_true,if_false] at hr
      cases h18:Pa.rank ts n 1 (i+1) with
      | none=>rw [h18,Pa.bd_none] at hr;simp at hr
      | some q18 =>
       rw [h18] at hr
       have HE18:Hid (∀ W,Pa.Tb g W→Pa.P ts g a c E (i+1) W→Calls Tryz.prog 120 #[.pointer (some ⟨g,0,none⟩)] W (Pa.Ans ts g a c E q18 W)):=fun W hb hp=>Pa.val_any hG n q18 h18 hb hp
       cases q18 with
       | error e1 =>
        rw [Pa.bd_err,Option.some.injEq] at hr
        subst hr
        have mk1:True:=trivial
        have mk2:True:=trivial
        have mk3:True:=trivial
        have mk4:True:=trivial
        have mk17:True:=trivial
        have mk18:True:=trivial
        go_enter Tryz.func121,Tryz.ntmps121
        go_wp2_with (first | (have _t:=mk1;go_at_call 93;refine (Pa.takesW_any [108,101,116] hT.1).mono ?_;rintro e W1 ⟨rfl,hT'⟩;rw [h1] at hT' ⊢;replace hT:Pa.Pt ts g a c E i w W1:=hT.to hT';clear hT';clear mk1) | (have _t:=mk2;go_at_call 93;refine (Pa.takesW_any [98,114,101,97,107] hT.1).mono ?_;rintro e W1 ⟨rfl,hT'⟩;rw [h2] at hT' ⊢;replace hT:Pa.Pt ts g a c E i w W1:=hT.to hT';clear hT';clear mk2) | (have _t:=mk3;go_at_call 93;refine (Pa.takesW_any [99,111,110,116,105,110,117,101] hT.1).mono ?_;rintro e W1 ⟨rfl,hT'⟩;rw [h3] at hT' ⊢;replace hT:Pa.Pt ts g a c E i w W1:=hT.to hT';clear hT';clear mk3) | (have _t:=mk4;go_at_call 93;refine (Pa.takesW_any [114,101,116,117,114,110] hT.1).mono ?_;rintro e W1 ⟨rfl,hT'⟩;rw [h4] at hT' ⊢;replace hT:Pa.Pt ts g a c E (i+1) w W1:=hT.to hT';clear hT';clear mk4) | (have _t:=mk17;go_at_call 118;refine (Pa.stands_any 5 [59] hT.1).mono ?_;rintro e W1 ⟨rfl,hW1⟩;rw [h17];have hT':Pa.Pt ts g a c E (i+1) _ W1:=⟨hT.1.below hW1,Pa.Fr.of_below hW1⟩;replace hT:=hT.to hT';clear hT' hW1;clear mk17) | (have _t:=mk18;go_at_call 120;refine (HE18.out _ (hB.fr hT.2) hT.1).mono ?_;rintro e V ⟨rfl,hF'⟩;have hF:=hT.2.trans hF';unfold Pa.pan;clear mk18))
        exact ⟨rfl,rfl,hF⟩
       | ok x18 =>
        rw [Pa.bd_ok] at hr
        simp only [Option.some.injEq] at hr
        subst hr
        have mk1:True:=trivial
        have mk2:True:=trivial
        have mk3:True:=trivial
        have mk4:True:=trivial
        have mk17:True:=trivial
        have mk18:True:=trivial
        go_enter Tryz.func121,Tryz.ntmps121
        go_wp2_with (first | (have _t:=mk1;go_at_call 93;refine (Pa.takesW_any [108,101,116] hT.1).mono ?_;rintro e W1 ⟨rfl,hT'⟩;rw [h1] at hT' ⊢;replace hT:Pa.Pt ts g a c E i w W1:=hT.to hT';clear hT';clear mk1) | (have _t:=mk2;go_at_call 93;refine (Pa.takesW_any [98,114,101,97,107] hT.1).mono ?_;rintro e W1 ⟨rfl,hT'⟩;rw [h2] at hT' ⊢;replace hT:Pa.Pt ts g a c E i w W1:=hT.to hT';clear hT';clear mk2) | (have _t:=mk3;go_at_call 93;refine (Pa.takesW_any [99,111,110,116,105,110,117,101] hT.1).mono ?_;rintro e W1 ⟨rfl,hT'⟩;rw [h3] at hT' ⊢;replace hT:Pa.Pt ts g a c E i w W1:=hT.to hT';clear hT';clear mk3) | (have _t:=mk4;go_at_call 93;refine (Pa.takesW_any [114,101,116,117,114,110] hT.1).mono ?_;rintro e W1 ⟨rfl,hT'⟩;rw [h4] at hT' ⊢;replace hT:Pa.Pt ts g a c E (i+1) w W1:=hT.to hT';clear hT';clear mk4) | (have _t:=mk17;go_at_call 118;refine (Pa.stands_any 5 [59] hT.1).mono ?_;rintro e W1 ⟨rfl,hW1⟩;rw [h17];have hT':Pa.Pt ts g a c E (i+1) _ W1:=⟨hT.1.below hW1,Pa.Fr.of_below hW1⟩;replace hT:=hT.to hT';clear hT' hW1;clear mk17) | (have _t:=mk18;go_at_call 120;refine (HE18.out _ (hB.fr hT.2) hT.1).mono ?_;rintro e V ⟨ty18,y18,rfl,hR18,hT'⟩;replace hR18:=hR18.mono hT.2.size;replace hT:=hT.to hT';clear hT';clear mk18))
        go_ret
        exact ⟨_,_,rfl,Pa.rb_ret1 hR18,hT⟩
     | true =>
      simp only [h17,if_true] at hr
      simp only [Option.some.injEq] at hr
      subst hr
      have mk1:True:=trivial
      have mk2:True:=trivial
      have mk3:True:=trivial
      have mk4:True:=trivial
      have mk17:True:=trivial
      go_enter Tryz.func121,Tryz.ntmps121
      go_wp2_with (first | (have _t:=mk1;go_at_call 93;refine (Pa.takesW_any [108,101,116] hT.1).mono ?_;rintro e W1 ⟨rfl,hT'⟩;rw [h1] at hT' ⊢;replace hT:Pa.Pt ts g a c E i w W1:=hT.to hT';clear hT';clear mk1) | (have _t:=mk2;go_at_call 93;refine (Pa.takesW_any [98,114,101,97,107] hT.1).mono ?_;rintro e W1 ⟨rfl,hT'⟩;rw [h2] at hT' ⊢;replace hT:Pa.Pt ts g a c E i w W1:=hT.to hT';clear hT';clear mk2) | (have _t:=mk3;go_at_call 93;refine (Pa.takesW_any [99,111,110,116,105,110,117,101] hT.1).mono ?_;rintro e W1 ⟨rfl,hT'⟩;rw [h3] at hT' ⊢;replace hT:Pa.Pt ts g a c E i w W1:=hT.to hT';clear hT';clear mk3) | (have _t:=mk4;go_at_call 93;refine (Pa.takesW_any [114,101,116,117,114,110] hT.1).mono ?_;rintro e W1 ⟨rfl,hT'⟩;rw [h4] at hT' ⊢;replace hT:Pa.Pt ts g a c E (i+1) w W1:=hT.to hT';clear hT';clear mk4) | (have _t:=mk17;go_at_call 118;refine (Pa.stands_any 5 [59] hT.1).mono ?_;rintro e W1 ⟨rfl,hW1⟩;rw [h17];have hT':Pa.Pt ts g a c E (i+1) _ W1:=⟨hT.1.below hW1,Pa.Fr.of_below hW1⟩;replace hT:=hT.to hT';clear hT' hW1;clear mk17))
      go_ret
      exact ⟨_,_,rfl,Pa.rb_ret0 _ _,hT⟩
   | true =>
    simp only [h3,if_true] at hr
    simp only [Option.some.injEq] at hr
    subst hr
    have mk1:True:=trivial
    have mk2:True:=trivial
    have mk3:True:=trivial
    go_enter Tryz.func121,Tryz.ntmps121
    go_wp2_with (first | (have _t:=mk1;go_at_call 93;refine (Pa.takesW_any [108,101,116] hT.1).mono ?_;rintro e W1 ⟨rfl,hT'⟩;rw [h1] at hT' ⊢;replace hT:Pa.Pt ts g a c E i w W1:=hT.to hT';clear hT';clear mk1) | (have _t:=mk2;go_at_call 93;refine (Pa.takesW_any [98,114,101,97,107] hT.1).mono ?_;rintro e W1 ⟨rfl,hT'⟩;rw [h2] at hT' ⊢;replace hT:Pa.Pt ts g a c E i w W1:=hT.to hT';clear hT';clear mk2) | (have _t:=mk3;go_at_call 93;refine (Pa.takesW_any [99,111,110,116,105,110,117,101] hT.1).mono ?_;rintro e W1 ⟨rfl,hT'⟩;rw [h3] at hT' ⊢;replace hT:Pa.Pt ts g a c E (i+1) w W1:=hT.to hT';clear hT';clear mk3))
    go_ret
    exact ⟨_,_,rfl,Pa.rb_continue _ _,hT⟩
  | true =>
   simp only [h2,if_true] at hr
   simp only [Option.some.injEq] at hr
   subst hr
   have mk1:True:=trivial
   have mk2:True:=trivial
   go_enter Tryz.func121,Tryz.ntmps121
   go_wp2_with (first | (have _t:=mk1;go_at_call 93;refine (Pa.takesW_any [108,101,116] hT.1).mono ?_;rintro e W1 ⟨rfl,hT'⟩;rw [h1] at hT' ⊢;replace hT:Pa.Pt ts g a c E i w W1:=hT.to hT';clear hT';clear mk1) | (have _t:=mk2;go_at_call 93;refine (Pa.takesW_any [98,114,101,97,107] hT.1).mono ?_;rintro e W1 ⟨rfl,hT'⟩;rw [h2] at hT' ⊢;replace hT:Pa.Pt ts g a c E (i+1) w W1:=hT.to hT';clear hT';clear mk2))
   go_ret
   exact ⟨_,_,rfl,Pa.rb_break _ _,hT⟩
 | true =>
  simp only [h1,if_true] at hr
  by_cases h19:¬ Pa.kd ts (i+1)=1
  ·simp only [Pa.iname,h19,if_false,Pa.bd_err',Option.some.injEq] at hr
   subst hr
   have mk1:True:=trivial
   have mk19:True:=trivial
   go_enter Tryz.func121,Tryz.ntmps121
   go_wp2_with (first | (have _t:=mk1;go_at_call 93;refine (Pa.takesW_any [108,101,116] hT.1).mono ?_;rintro e W1 ⟨rfl,hT'⟩;rw [h1] at hT' ⊢;replace hT:Pa.Pt ts g a c E (i+1) w W1:=hT.to hT';clear hT';clear mk1) | (have _t:=mk19;go_at_call 66;refine (Pa.iname_no h19 hT.1).mono ?_;rintro e W1 ⟨rfl,hT'⟩;have hF:=(hT.to hT').2;unfold Pa.pan;clear mk19))
   exact ⟨rfl,rfl,hF⟩
  replace h19:Pa.kd ts (i+1)=1:=Decidable.not_not.mp h19
  simp only [Pa.iname,h19,if_true,Pa.bd_ok'] at hr
  cases h20:Pa.st ts 5 [61] ((i+1)+1) with
  | false =>
   rw [Pa.nd_no h20,Pa.bd_err,Option.some.injEq] at hr
   subst hr
   have mk1:True:=trivial
   have mk19:True:=trivial
   have mk20:True:=trivial
   go_enter Tryz.func121,Tryz.ntmps121
   go_wp2_with (first | (have _t:=mk1;go_at_call 93;refine (Pa.takesW_any [108,101,116] hT.1).mono ?_;rintro e W1 ⟨rfl,hT'⟩;rw [h1] at hT' ⊢;replace hT:Pa.Pt ts g a c E (i+1) w W1:=hT.to hT';clear hT';clear mk1) | (have _t:=mk19;go_at_call 66;refine (Pa.iname_ok h19 hT.1).mono ?_;rintro e W1 ⟨rfl,hT'⟩;replace hT:=hT.to hT';clear hT';clear mk19) | (have _t:=mk20;go_at_call 67;refine (Pa.needsM_no [61] h20 hT.1).mono ?_;rintro e W1 ⟨rfl,hT'⟩;have hF:=(hT.to hT').2;unfold Pa.pan;clear mk20))
   exact ⟨rfl,rfl,hF⟩
  | true =>
   rw [Pa.nd_yes h20,Pa.bd_ok] at hr
   simp only at hr
   cases h21:Pa.rank ts n 1 (((i+1)+1)+1) with
   | none=>rw [h21,Pa.bd_none] at hr;simp at hr
   | some q21 =>
    rw [h21] at hr
    have HE21:Hid (∀ W,Pa.Tb g W→Pa.P ts g a c E (((i+1)+1)+1) W→Calls Tryz.prog 120 #[.pointer (some ⟨g,0,none⟩)] W (Pa.Ans ts g a c E q21 W)):=fun W hb hp=>Pa.val_any hG n q21 h21 hb hp
    cases q21 with
    | error e1 =>
     rw [Pa.bd_err,Option.some.injEq] at hr
     subst hr
     have mk1:True:=trivial
     have mk19:True:=trivial
     have mk20:True:=trivial
     have mk21:True:=trivial
     go_enter Tryz.func121,Tryz.ntmps121
     go_wp2_with (first | (have _t:=mk1;go_at_call 93;refine (Pa.takesW_any [108,101,116] hT.1).mono ?_;rintro e W1 ⟨rfl,hT'⟩;rw [h1] at hT' ⊢;replace hT:Pa.Pt ts g a c E (i+1) w W1:=hT.to hT';clear hT';clear mk1) | (have _t:=mk19;go_at_call 66;refine (Pa.iname_ok h19 hT.1).mono ?_;rintro e W1 ⟨rfl,hT'⟩;replace hT:=hT.to hT';clear hT';clear mk19) | (have _t:=mk20;go_at_call 67;refine (Pa.needsM_ok [61] h20 hT.1).mono ?_;rintro e W1 ⟨rfl,hT'⟩;replace hT:=hT.to hT';clear hT';clear mk20) | (have _t:=mk21;go_at_call 120;refine (HE21.out _ (hB.fr hT.2) hT.1).mono ?_;rintro e V ⟨rfl,hF'⟩;have hF:=hT.2.trans hF';unfold Pa.pan;clear mk21))
     exact ⟨rfl,rfl,hF⟩
    | ok x21 =>
     rw [Pa.bd_ok] at hr
     simp only [Option.some.injEq] at hr
     subst hr
     have mk1:True:=trivial
     have mk19:True:=trivial
     have mk20:True:=trivial
     have mk21:True:=trivial
     go_enter Tryz.func121,Tryz.ntmps121
     go_wp2_with (first | (have _t:=mk1;go_at_call 93;refine (Pa.takesW_any [108,101,116] hT.1).mono ?_;rintro e W1 ⟨rfl,hT'⟩;rw [h1] at hT' ⊢;replace hT:Pa.Pt ts g a c E (i+1) w W1:=hT.to hT';clear hT';clear mk1) | (have _t:=mk19;go_at_call 66;refine (Pa.iname_ok h19 hT.1).mono ?_;rintro e W1 ⟨rfl,hT'⟩;replace hT:=hT.to hT';clear hT';clear mk19) | (have _t:=mk20;go_at_call 67;refine (Pa.needsM_ok [61] h20 hT.1).mono ?_;rintro e W1 ⟨rfl,hT'⟩;replace hT:=hT.to hT';clear hT';clear mk20) | (have _t:=mk21;go_at_call 120;refine (HE21.out _ (hB.fr hT.2) hT.1).mono ?_;rintro e V ⟨ty21,y21,rfl,hR21,hT'⟩;replace hR21:=hR21.mono hT.2.size;replace hT:=hT.to hT';clear hT';clear mk21))
     go_ret
     exact ⟨_,_,rfl,Pa.rb_let _ hR21,hT⟩
end Go.Proofs.YtlcckaffhnjneaaGreatDoor
