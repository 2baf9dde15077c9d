import Derived.Test.YtfjkahdghhbpnaaGreatDoorKCdA
set_option maxRecDepth 100000
set_option maxHeartbeats 8000000
namespace Go.Proofs.YtfjkahdghhbpnaaGreatDoor
open Go.RowKit
theorem Gg (c:List Ae) (f:Ae) (i:Ax) (h1:i.op≠1) (h:i.n≠0\/i.text.toList.isEmpty=false):At c f i=false:=by
 unfold At
 by_cases hc:A4 i.op 1 16=false\/(C3 i.op=false/\i.a≠0)
 ·rw[if_pos hc]
 ·rw[if_neg hc,if_neg h1,if_pos h]
theorem Qa7 (c:List Ae) (f:Ae) (i:Ax) (h1:C3 i.op=false) (h:i.a≠0):At c f i=false:=by
 unfold At
 rw[if_pos (.inr ⟨h1,h⟩)]
def Qb7 (c:List Ae) (f:Ae) (op a:Int):Bool :=
 if op=2\/op=3 then A4 a 0 (f.slots - 1)
 else if op=5 then A4 a 1 3
 else if op=6 then A4 a 3 18
 else if op=7 then Cf a
 else if op=8 then A4 a 1 12
 else if op=9 then A4 a 0 ((c.length:Int) - 1)
 else if op=10\/op=11 then A4 a 0 (f.ins.length:Int)
 else true
theorem Ip (c:List Ae) (f:Ae) (op a:Int) (text:ByteArray) (h1:op≠1) (h12:op≠12) (hin:A4 op 1 16=true) (b:C3 op=true\/a=0) (hx:text.toList.isEmpty=true):At c f ⟨op,a,0,text⟩=Qb7 c f op a:=by
 have d:¬ (A4 op 1 16=false\/(C3 op=false/\a≠0)):=by
  rw[hin]
  rcases b with b|b
  ·rw[b];simp
  ·simp[b]
 simp only[At]
 rw[if_neg d,if_neg h1,if_neg (by simp[hx])]
 unfold Qb7
 by_cases g1:op=2\/op=3
 ·rw[if_pos g1,if_pos g1]
 rw[if_neg g1,if_neg g1]
 by_cases g2:op=5
 ·rw[if_pos g2,if_pos g2]
 rw[if_neg g2,if_neg g2]
 by_cases g3:op=6
 ·rw[if_pos g3,if_pos g3]
 rw[if_neg g3,if_neg g3]
 by_cases g4:op=7
 ·rw[if_pos g4,if_pos g4]
 rw[if_neg g4,if_neg g4]
 by_cases g5:op=8
 ·rw[if_pos g5,if_pos g5]
 rw[if_neg g5,if_neg g5]
 by_cases g6:op=9
 ·rw[if_pos g6,if_pos g6]
 rw[if_neg g6,if_neg g6]
 by_cases g7:op=10\/op=11
 ·rw[if_pos g7,if_pos g7]
 rw[if_neg g7,if_neg g7,if_neg h12]
theorem Xe (c:List Ae) (f:Ae) (a:Int) (text:ByteArray) (hx:text.toList.isEmpty=true):At c f ⟨2,a,0,text⟩=A4 a 0 (f.slots - 1):=Ip c f 2 a text (by decide) (by decide) rfl (.inl rfl) hx
theorem Xf (c:List Ae) (f:Ae) (a:Int) (text:ByteArray) (hx:text.toList.isEmpty=true):At c f ⟨8,a,0,text⟩=A4 a 1 12:=Ip c f 8 a text (by decide) (by decide) rfl (.inl rfl) hx
theorem Xg (c:List Ae) (f:Ae) (a:Int) (text:ByteArray) (hx:text.toList.isEmpty=true):At c f ⟨9,a,0,text⟩=A4 a 0 ((c.length:Int) - 1):=Ip c f 9 a text (by decide) (by decide) rfl (.inl rfl) hx
theorem Td (c:List Ae) (f:Ae) (op a n:Int) (text:ByteArray) (cv pv iv:Value) (h1:op≠1) (hin:A4 op 1 16=true) (h:(C3 op=false/\a≠0)\/n≠0\/text.toList.isEmpty=false) (w:World) :
  Calls Tryz.prog 109 #[.agg #[cv],Aw f pv iv,An ⟨op,a,n,text⟩] w fun e w'=>e = .returned (.bool (At c f ⟨op,a,n,text⟩))/\Below w.heap.size w w':=by
 have k:Hid (false=At c f ⟨op,a,n,text⟩):=by
  rcases h with h|h
  ·exact(Qa7 c f ⟨op,a,n,text⟩ h.1 h.2).symm
  ·exact(Gg c f ⟨op,a,n,text⟩ h1 h).symm
 have g:Hid (A4 op 1 16=true):=hin
 have o:(op == 1)=false:=by simp[h1]
 obtain⟨b,i⟩:∃ b,Hid (C3 op=b):=⟨_,(rfl:C3 op=_)⟩
 rw[i.out]at h
 clear h1 hin
 unfold Aw An
 by_cases j:b=false/\a≠0
 ·obtain⟨rfl,j⟩:=j
  have d:(a != 0)=true:=by simp[j]
  clear h
  go_enter Tryz.func109,Tryz.ntmps109
  go_wp2_with (first|(go_at_call 107;refine(Jt true _ _ _ g _).mono ?_;rintro e w' ⟨rfl,rfl⟩)|(go_at_call 131;refine(Do _ _).mono ?_;rintro e w' ⟨rfl,rfl⟩;rw[i.out]))
  go_ret
  exact⟨As k.out,Hs w _ _ _⟩
 ·have d:b=false->(a != 0)=false:=fun hb=>by
   by_cases h0:a=0
   ·simp[h0]
   ·exact absurd ⟨hb,h0⟩ j
  have l:n≠0\/text.toList.isEmpty=false:=by
   rcases h with h|h
   ·exact absurd h j
   ·exact h
  clear h j
  by_cases hn:n=0
  ·subst hn
   have p:text.toList.isEmpty=false:=by
    rcases l with h|h
    ·exact absurd rfl h
    ·exact h
   clear l
   cases b
   ·have d:=d rfl
    go_enter Tryz.func109,Tryz.ntmps109
    go_wp2_with (first|(go_at_call 107;refine(Jt true _ _ _ g _).mono ?_;rintro e w' ⟨rfl,rfl⟩)|(go_at_call 131;refine(Do _ _).mono ?_;rintro e w' ⟨rfl,rfl⟩;rw[i.out]))
    go_ret
    exact⟨As k.out,Hs w _ _ _⟩
   ·clear d
    go_enter Tryz.func109,Tryz.ntmps109
    go_wp2_with (first|(go_at_call 107;refine(Jt true _ _ _ g _).mono ?_;rintro e w' ⟨rfl,rfl⟩)|(go_at_call 131;refine(Do _ _).mono ?_;rintro e w' ⟨rfl,rfl⟩;rw[i.out]))
    go_ret
    exact⟨As k.out,Hs w _ _ _⟩
  ·have m:(n != 0)=true:=by simp[hn]
   clear l
   cases b
   ·have d:=d rfl
    go_enter Tryz.func109,Tryz.ntmps109
    go_wp2_with (first|(go_at_call 107;refine(Jt true _ _ _ g _).mono ?_;rintro e w' ⟨rfl,rfl⟩)|(go_at_call 131;refine(Do _ _).mono ?_;rintro e w' ⟨rfl,rfl⟩;rw[i.out]))
    go_ret
    exact⟨As k.out,Hs w _ _ _⟩
   ·clear d
    go_enter Tryz.func109,Tryz.ntmps109
    go_wp2_with (first|(go_at_call 107;refine(Jt true _ _ _ g _).mono ?_;rintro e w' ⟨rfl,rfl⟩)|(go_at_call 131;refine(Do _ _).mono ?_;rintro e w' ⟨rfl,rfl⟩;rw[i.out]))
    go_ret
    exact⟨As k.out,Hs w _ _ _⟩
theorem Tc (c:List Ae) (f:Ae) (op a:Int) (text:ByteArray) (ca ia:Option Addr) (ccap icap:Nat) (pv:Value) (hs0:0<=f.slots) (hs1:f.slots<=200) (hcl:1<=c.length) (hcl2:c.length<=60) (hop:op=2\/op=3\/op=4\/op=5\/op=6\/op=7\/op=8\/op=9\/op=10\/op=11\/op=13\/op=14\/op=15\/op=16) (ha:C3 op=true\/a=0) (hx:text.toList.isEmpty=true) (w:World) :
  Calls Tryz.prog 109 #[.agg #[.slice ca c.length ccap],Aw f pv (.slice ia f.ins.length icap),An ⟨op,a,0,text⟩] w fun e w'=>e = .returned (.bool (At c f ⟨op,a,0,text⟩))/\Below w.heap.size w w':=by
 have g:wrap64 (f.slots - 1)=f.slots - 1:=IntWalk.wrap64_in _ (by omega)
 have d:wrap64 ((c.length:Int) - 1)=(c.length:Int) - 1:=IntWalk.wrap64_in _ (by omega)
 rw[Ip c f op a text (by omega) (by omega) (by rcases hop with rfl|rfl|rfl|rfl|rfl|rfl|rfl|rfl|rfl|rfl|rfl|rfl|rfl|rfl <;> rfl) ha hx]
 unfold Aw An
 rcases hop with rfl|rfl|rfl|rfl|rfl|rfl|rfl|rfl|rfl|rfl|rfl|rfl|rfl|rfl
 all_goals
  have b:C3 _=true\/(a != 0)=false:=ha.imp id (fun h=>by simp[h])
  (first|(replace b:(a != 0)=false:=b.resolve_left (by decide))|clear b)
  clear ha
  go_enter Tryz.func109,Tryz.ntmps109
  go_wp2_with fail
  go_at_call 107;refine(Cs _ _ _ _).mono ?_;rintro e w' ⟨rfl,rfl⟩;rw[show A4 _ 1 16=true from rfl]
  go_wp2_with fail
  go_at_call 131;refine(Do _ _).mono ?_;rintro e w' ⟨rfl,rfl⟩;first|rw[show C3 _=true from rfl]|rw[show C3 _=false from rfl]
  go_wp2_with (first|(go_at_call 107;(try rw[g]);(try rw[d]);refine(Cs _ _ _ _).mono ?_;rintro e w' ⟨rfl,rfl⟩)|(go_at_call 133;refine(Eg _ _).mono ?_;rintro e w' ⟨rfl,rfl⟩))
  go_ret
  exact⟨As rfl,Hs w _ _ _⟩
theorem Ns (c:List Ae) (f:Ae) (a:Int) (text:ByteArray) (hx:text.toList.isEmpty=true):At c f ⟨12,a,0,text⟩=((decide (a=1) && decide (f.result≠0)) || (decide (a=0) && decide (f.result=0))):=by
 have b:A4 12 1 16=true:=rfl
 have d:C3 12=true:=rfl
 simp only[At]
 rw[if_neg (by simp[b,d])]
 rw[if_neg (by decide),if_neg (by simp[hx]),if_neg (by decide),if_neg (by decide),if_neg (by decide),if_neg (by decide),if_neg (by decide),if_neg (by decide),if_neg (by decide),if_pos (by decide)]
theorem Zt (c:List Ae) (f:Ae) (a n:Int) (text:ByteArray) (ca ia:Option Addr) (ccap icap:Nat) (pv:Value) (hs0:0<=f.slots) (hs1:f.slots<=200) (hcl:1<=c.length) (hcl2:c.length<=60) (_hil:f.ins.length<=50000) (w:World) :
  Calls Tryz.prog 109 #[.agg #[.slice ca c.length ccap],Aw f pv (.slice ia f.ins.length icap),An ⟨12,a,n,text⟩] w fun e w'=>e = .returned (.bool (At c f ⟨12,a,n,text⟩))/\Below w.heap.size w w':=by
 have b:A4 12 1 16=true:=rfl
 have d:C3 12=true:=rfl
 have o:wrap64 (f.slots - 1)=f.slots - 1:=IntWalk.wrap64_in _ (by omega)
 have m:wrap64 ((c.length:Int) - 1)=(c.length:Int) - 1:=IntWalk.wrap64_in _ (by omega)
 obtain⟨r,g⟩:∃ r,Hid (At c f ⟨12,a,n,text⟩=r):=⟨_,(rfl:At c f ⟨12,a,n,text⟩=_)⟩
 rw[g.out]
 unfold Aw An
 by_cases hn:n=0
 ·subst hn
  cases hx:text.toList.isEmpty with
  | true =>
   have h:Hid (r=((decide (a=1) && decide (f.result≠0)) || (decide (a=0) && decide (f.result=0)))):=g.out.symm.trans (Ns c f a text hx)
   clear g
   by_cases h1:a=1
   ·subst h1
    by_cases h2:f.result=0
    ·have k:(f.result != 0)=false:=by simp[h2]
     have j:(f.result == 0)=true:=by simp[h2]
     go_enter Tryz.func109,Tryz.ntmps109
     go_wp2_with fail
     go_at_call 107;refine(Cs _ _ _ _).mono ?_;rintro e w' ⟨rfl,rfl⟩;rw[b]
     go_wp2_with fail
     go_at_call 131;refine(Do _ _).mono ?_;rintro e w' ⟨rfl,rfl⟩;rw[d]
     go_wp2_with fail
     go_ret
     exact⟨As (by rw[h.out];simp[h2]),Hs w _ _ _⟩
    ·have k:(f.result != 0)=true:=by simp[h2]
     go_enter Tryz.func109,Tryz.ntmps109
     go_wp2_with fail
     go_at_call 107;refine(Cs _ _ _ _).mono ?_;rintro e w' ⟨rfl,rfl⟩;rw[b]
     go_wp2_with fail
     go_at_call 131;refine(Do _ _).mono ?_;rintro e w' ⟨rfl,rfl⟩;rw[d]
     go_wp2_with fail
     go_ret
     exact⟨As (by rw[h.out];simp[h2]),Hs w _ _ _⟩
   ·have p:(a == 1)=false:=by simp[h1]
    by_cases h6:a=0
    ·subst h6
     by_cases h2:f.result=0
     ·have j:(f.result == 0)=true:=by simp[h2]
      go_enter Tryz.func109,Tryz.ntmps109
      go_wp2_with fail
      go_at_call 107;refine(Cs _ _ _ _).mono ?_;rintro e w' ⟨rfl,rfl⟩;rw[b]
      go_wp2_with fail
      go_at_call 131;refine(Do _ _).mono ?_;rintro e w' ⟨rfl,rfl⟩;rw[d]
      go_wp2_with fail
      go_ret
      exact⟨As (by rw[h.out];simp[h2]),Hs w _ _ _⟩
     ·have j:(f.result == 0)=false:=by simp[h2]
      go_enter Tryz.func109,Tryz.ntmps109
      go_wp2_with fail
      go_at_call 107;refine(Cs _ _ _ _).mono ?_;rintro e w' ⟨rfl,rfl⟩;rw[b]
      go_wp2_with fail
      go_at_call 131;refine(Do _ _).mono ?_;rintro e w' ⟨rfl,rfl⟩;rw[d]
      go_wp2_with fail
      go_ret
      exact⟨As (by rw[h.out];simp[h2]),Hs w _ _ _⟩
    ·have q:(a == 0)=false:=by simp[h6]
     go_enter Tryz.func109,Tryz.ntmps109
     go_wp2_with fail
     go_at_call 107;refine(Cs _ _ _ _).mono ?_;rintro e w' ⟨rfl,rfl⟩;rw[b]
     go_wp2_with fail
     go_at_call 131;refine(Do _ _).mono ?_;rintro e w' ⟨rfl,rfl⟩;rw[d]
     go_wp2_with fail
     go_ret
     exact⟨As (by rw[h.out];simp[h1,h6]),Hs w _ _ _⟩
  | false =>
   have i:Hid (false=r):=(Gg c f ⟨12,a,0,text⟩ (by simp) (.inr hx)).symm.trans g.out
   clear g
   go_enter Tryz.func109,Tryz.ntmps109
   go_wp2_with fail
   go_at_call 107;refine(Cs _ _ _ _).mono ?_;rintro e w' ⟨rfl,rfl⟩;rw[b]
   go_wp2_with fail
   go_at_call 131;refine(Do _ _).mono ?_;rintro e w' ⟨rfl,rfl⟩;rw[d]
   go_wp2_with fail
   go_ret
   exact⟨As i.out,Hs w _ _ _⟩
 ·have l:(n != 0)=true:=by simp[hn]
  have i:Hid (false=r):=(Gg c f ⟨12,a,n,text⟩ (by simp) (.inl hn)).symm.trans g.out
  clear g
  go_enter Tryz.func109,Tryz.ntmps109
  go_wp2_with fail
  go_at_call 107;refine(Cs _ _ _ _).mono ?_;rintro e w' ⟨rfl,rfl⟩;rw[b]
  go_wp2_with fail
  go_at_call 131;refine(Do _ _).mono ?_;rintro e w' ⟨rfl,rfl⟩;rw[d]
  go_wp2_with fail
  go_ret
  exact⟨As i.out,Hs w _ _ _⟩
theorem Xh (c:List Ae) (f:Ae) (i:Ax) (cv pv iv:Value) (h:A4 i.op 1 16=false) (w:World) :
  Calls Tryz.prog 109 #[.agg #[cv],Aw f pv iv,An i] w fun e w'=>e = .returned (.bool (At c f i))/\Below w.heap.size w w':=by
 have a:Hid (A4 i.op 1 16=false):=h
 have b:Hid (false=At c f i):=by rw[Hid,At,if_pos (.inl h)]
 clear h
 unfold Aw An
 go_enter Tryz.func109,Tryz.ntmps109
 go_wp2_with (first|(go_at_call 107;refine(Jt false _ _ _ a _).mono ?_;rintro e w' ⟨rfl,rfl⟩))
 go_ret
 exact⟨As b.out,Hs w _ _ _⟩
theorem Xc (c:List Ae) (f:Ae) (i:Ax) (ca ia:Option Addr) (ccap icap:Nat) (pv:Value) (hs0:0<=f.slots) (hs1:f.slots<=200) (hcl:1<=c.length) (hcl2:c.length<=60) (hil:f.ins.length<=50000) (w:World) :
  Calls Tryz.prog 109 #[.agg #[.slice ca c.length ccap],Aw f pv (.slice ia f.ins.length icap),An i] w fun e w'=>e = .returned (.bool (At c f i))/\Below w.heap.size w w':=by
 obtain⟨b,a,n,d⟩:=i
 by_cases h:A4 b 1 16=true
 ·have j:b=1\/b=2\/b=3\/b=4\/b=5\/b=6\/b=7\/b=8\/b=9\/b=10\/b=11\/b=12\/b=13\/b=14\/b=15\/b=16:=by
   unfold A4 at h
   simp at h
   omega
  by_cases h1:b=1
  ·subst h1;exact Qa6 c f a n d _ pv _ w
  by_cases h12:b=12
  ·subst h12;exact Zt c f a n d ca ia ccap icap pv hs0 hs1 hcl hcl2 hil w
  by_cases hb:(C3 b=false/\a≠0)\/n≠0\/d.toList.isEmpty=false
  ·exact Td c f b a n d _ pv _ h1 h hb w
  ·have g:n=0:=by
    by_cases e:n=0
    ·exact e
    ·exact absurd (.inr (.inl e)) hb
   subst g
   refine Tc c f b a d ca ia ccap icap pv hs0 hs1 hcl hcl2 (by omega) ?_ ?_ w
   ·cases hA:C3 b with
    | true=>exact .inl rfl
    | false =>
     right
     by_cases e:a=0
     ·exact e
     ·exact absurd (.inl ⟨hA,e⟩) hb
   ·cases hx:d.toList.isEmpty with
    | true=>rfl
    | false=>exact absurd (.inr (.inr hx)) hb
 ·exact Xh c f ⟨b,a,n,d⟩ _ pv _ (by simpa using h) w
end Go.Proofs.YtfjkahdghhbpnaaGreatDoor
