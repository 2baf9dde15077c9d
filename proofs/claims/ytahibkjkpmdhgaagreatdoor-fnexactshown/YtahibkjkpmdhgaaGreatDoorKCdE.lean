import Derived.Test.YtahibkjkpmdhgaaGreatDoorKTk
import Derived.Test.YtahibkjkpmdhgaaGreatDoorKCdA
set_option maxRecDepth 100000
set_option maxHeartbeats 8000000
namespace Go.Proofs.YtahibkjkpmdhgaaGreatDoor
open Go.RowKit
theorem Ha (c:List Af) (f:Af) (i:Az) (h1:i.op≠1) (h:i.n≠0\/i.text.toList.isEmpty=false):Aq c f i=false:=by
 unfold Aq;by_cases hc:As i.op 1 16=false\/(Dr i.op=false/\i.a≠0)
 ·rw[if_pos hc]
 ·rw[if_neg hc,if_neg h1,if_pos h]
theorem Qde (c:List Af) (f:Af) (i:Az) (h1:Dr i.op=false) (h:i.a≠0):Aq c f i=false:=by
 unfold Aq;rw[if_pos (.inr ⟨h1,h⟩)]
def Qel (c:List Af) (f:Af) (op a:Int):Bool :=
 if op=2\/op=3 then As a 0 (f.slots - 1)
 else if op=5 then As a 1 3
 else if op=6 then As a 3 18
 else if op=7 then Ci a
 else if op=8 then As a 1 12
 else if op=9 then As a 0 ((c.length:Int) - 1)
 else if op=10\/op=11 then As a 0 (f.ins.length:Int)
 else true
theorem Js (c:List Af) (f:Af) (op a:Int) (text:ByteArray) (h1:op≠1) (h12:op≠12) (hin:As op 1 16=true) (b:Dr op=true\/a=0) (hx:text.toList.isEmpty=true):Aq c f ⟨op,a,0,text⟩=Qel c f op a:=by
 have d:¬ (As op 1 16=false\/(Dr op=false/\a≠0)):=by
  rw[hin];rcases b with b|b
  ·rw[b];simp
  ·simp[b]
 simp only[Aq];rw[if_neg d,if_neg h1,if_neg (by simp[hx])];unfold Qel;by_cases g1:op=2\/op=3
 ·rw[if_pos g1,if_pos g1]
 rw[if_neg g1,if_neg g1];by_cases g2:op=5
 ·rw[if_pos g2,if_pos g2]
 rw[if_neg g2,if_neg g2];by_cases g3:op=6
 ·rw[if_pos g3,if_pos g3]
 rw[if_neg g3,if_neg g3];by_cases g4:op=7
 ·rw[if_pos g4,if_pos g4]
 rw[if_neg g4,if_neg g4];by_cases g5:op=8
 ·rw[if_pos g5,if_pos g5]
 rw[if_neg g5,if_neg g5];by_cases g6:op=9
 ·rw[if_pos g6,if_pos g6]
 rw[if_neg g6,if_neg g6];by_cases g7:op=10\/op=11
 ·rw[if_pos g7,if_pos g7]
 rw[if_neg g7,if_neg g7,if_neg h12]
theorem Zf (c:List Af) (f:Af) (a:Int) (text:ByteArray) (hx:text.toList.isEmpty=true):Aq c f ⟨2,a,0,text⟩=As a 0 (f.slots - 1):=Js c f 2 a text Ov Ov rfl (.inl rfl) hx
theorem Zg (c:List Af) (f:Af) (a:Int) (text:ByteArray) (hx:text.toList.isEmpty=true):Aq c f ⟨8,a,0,text⟩=As a 1 12:=Js c f 8 a text Ov Ov rfl (.inl rfl) hx
theorem Zh (c:List Af) (f:Af) (a:Int) (text:ByteArray) (hx:text.toList.isEmpty=true):Aq c f ⟨9,a,0,text⟩=As a 0 ((c.length:Int) - 1):=Js c f 9 a text Ov Ov rfl (.inl rfl) hx
theorem Un (c:List Af) (f:Af) (op a n:Int) (text:ByteArray) (cv pv iv:Value) (h1:op≠1) (hin:As op 1 16=true) (h:(Dr op=false/\a≠0)\/n≠0\/text.toList.isEmpty=false) (w:World) :
  Calls Tryz.prog 111 #[.agg #[cv],Bp f pv iv,Aw ⟨op,a,n,text⟩] w fun e w'=>e = .returned (.bool (Aq c f ⟨op,a,n,text⟩))/\OH w w':=by
 have k:Hid (false=Aq c f ⟨op,a,n,text⟩):=by
  rcases h with h|h
  ·exact(Qde c f ⟨op,a,n,text⟩ h.1 h.2).symm
  ·exact(Ha c f ⟨op,a,n,text⟩ h1 h).symm
 have g:Hid (As op 1 16=true):=hin;have o:(op == 1)=false:=by simp[h1]
 obtain⟨b,i⟩:∃ b,Hid (Dr op=b):=⟨_,(rfl:Dr op=_)⟩;rw[i.out]at h;clear h1 hin;unfold Bp Aw;by_cases j:b=false/\a≠0
 ·obtain⟨rfl,j⟩:=j;have d:(a != 0)=true:=by simp[j]
  clear h;go_enter Tryz.func111,Tryz.ntmps111;go_wp2_with (first|(go_at_call 22;refine(Ks true _ _ _ g _).mono ?_;rintro e w' ⟨rfl,rfl⟩)|(go_at_call 138;refine(Dz _ _).mono ?_;rintro e w' ⟨rfl,rfl⟩;rw[i.out]));go_ret;exact⟨Ap k.out,Gy w _ _ _⟩
 ·have d:b=false->(a != 0)=false:=fun hb=>by
   by_cases h0:a=0
   ·simp[h0]
   ·exact absurd ⟨hb,h0⟩ j
  have l:n≠0\/text.toList.isEmpty=false:=by
   rcases h with h|h
   ·exact absurd h j
   ·exact h
  clear h j;by_cases hn:n=0
  ·subst hn;have p:text.toList.isEmpty=false:=by
    rcases l with h|h
    ·exact absurd rfl h
    ·exact h
   clear l;cases b
   ·have d:=d rfl;go_enter Tryz.func111,Tryz.ntmps111;go_wp2_with (first|(go_at_call 22;refine(Ks true _ _ _ g _).mono ?_;rintro e w' ⟨rfl,rfl⟩)|(go_at_call 138;refine(Dz _ _).mono ?_;rintro e w' ⟨rfl,rfl⟩;rw[i.out]));go_ret;exact⟨Ap k.out,Gy w _ _ _⟩
   ·clear d;go_enter Tryz.func111,Tryz.ntmps111;go_wp2_with (first|(go_at_call 22;refine(Ks true _ _ _ g _).mono ?_;rintro e w' ⟨rfl,rfl⟩)|(go_at_call 138;refine(Dz _ _).mono ?_;rintro e w' ⟨rfl,rfl⟩;rw[i.out]));go_ret;exact⟨Ap k.out,Gy w _ _ _⟩
  ·have m:(n != 0)=true:=(by simp[hn]);clear l;cases b
   ·have d:=d rfl;go_enter Tryz.func111,Tryz.ntmps111;go_wp2_with (first|(go_at_call 22;refine(Ks true _ _ _ g _).mono ?_;rintro e w' ⟨rfl,rfl⟩)|(go_at_call 138;refine(Dz _ _).mono ?_;rintro e w' ⟨rfl,rfl⟩;rw[i.out]));go_ret;exact⟨Ap k.out,Gy w _ _ _⟩
   ·clear d;go_enter Tryz.func111,Tryz.ntmps111;go_wp2_with (first|(go_at_call 22;refine(Ks true _ _ _ g _).mono ?_;rintro e w' ⟨rfl,rfl⟩)|(go_at_call 138;refine(Dz _ _).mono ?_;rintro e w' ⟨rfl,rfl⟩;rw[i.out]));go_ret;exact⟨Ap k.out,Gy w _ _ _⟩
theorem Um (c:List Af) (f:Af) (op a:Int) (text:ByteArray) (ca ia:Option Addr) (ccap icap:Nat) (pv:Value) (hs0:0<=f.slots) (hs1:f.slots<=200) (hcl:1<=c.length) (hcl2:c.length<=60) (hop:op=2\/op=3\/op=4\/op=5\/op=6\/op=7\/op=8\/op=9\/op=10\/op=11\/op=13\/op=14\/op=15\/op=16) (ha:Dr op=true\/a=0) (hx:text.toList.isEmpty=true) (w:World) :
  Calls Tryz.prog 111 #[.agg #[.slice ca c.length ccap],Bp f pv (.slice ia f.ins.length icap),Aw ⟨op,a,0,text⟩] w fun e w'=>e = .returned (.bool (Aq c f ⟨op,a,0,text⟩))/\OH w w':=by
 have g:wrap64 (f.slots - 1)=f.slots - 1:=IntWalk.wrap64_in _ Ou;have d:wrap64 ((c.length:Int) - 1)=(c.length:Int) - 1:=IntWalk.wrap64_in _ Ou;rw[Js c f op a text Ou Ou (by rcases hop with rfl|rfl|rfl|rfl|rfl|rfl|rfl|rfl|rfl|rfl|rfl|rfl|rfl|rfl <;> rfl) ha hx];unfold Bp Aw;rcases hop with rfl|rfl|rfl|rfl|rfl|rfl|rfl|rfl|rfl|rfl|rfl|rfl|rfl|rfl
 all_goals
  have b:Dr _=true\/(a != 0)=false:=ha.imp id (fun h=>by simp[h]);(first|(replace b:(a != 0)=false:=b.resolve_left Ov)|clear b);clear ha;go_enter Tryz.func111,Tryz.ntmps111;go_wp2_with fail;go_at_call 22;refine(Cf _ _ _ _).mono ?_;rintro e w' ⟨rfl,rfl⟩;rw[show As _ 1 16=true from rfl];go_wp2_with fail;go_at_call 138;refine(Dz _ _).mono ?_;rintro e w' ⟨rfl,rfl⟩;first|rw[show Dr _=true from rfl]|rw[show Dr _=false from rfl]
  go_wp2_with (first|(go_at_call 22;(try rw[g]);(try rw[d]);refine(Cf _ _ _ _).mono ?_;rintro e w' ⟨rfl,rfl⟩)|(go_at_call 115;refine(E2 _ _).mono ?_;rintro e w' ⟨rfl,rfl⟩));go_ret;exact⟨Ap rfl,Gy w _ _ _⟩
theorem O8 (c:List Af) (f:Af) (a:Int) (text:ByteArray) (hx:text.toList.isEmpty=true):Aq c f ⟨12,a,0,text⟩=((decide (a=1) && decide (f.result≠0)) || (decide (a=0) && decide (f.result=0))):=by
 have b:As 12 1 16=true:=rfl;have d:Dr 12=true:=rfl;simp only[Aq];rw[if_neg (by simp[b,d])];rw[if_neg Ov,if_neg (by simp[hx]),if_neg Ov,if_neg Ov,if_neg Ov,if_neg Ov,if_neg Ov,if_neg Ov,if_neg Ov,if_pos Ov]
theorem Qbk (c:List Af) (f:Af) (a n:Int) (text:ByteArray) (ca ia:Option Addr) (ccap icap:Nat) (pv:Value) (hs0:0<=f.slots) (hs1:f.slots<=200) (hcl:1<=c.length) (hcl2:c.length<=60) (_hil:f.ins.length<=50000) (w:World) :
  Calls Tryz.prog 111 #[.agg #[.slice ca c.length ccap],Bp f pv (.slice ia f.ins.length icap),Aw ⟨12,a,n,text⟩] w fun e w'=>e = .returned (.bool (Aq c f ⟨12,a,n,text⟩))/\OH w w':=by
 have b:As 12 1 16=true:=rfl;have d:Dr 12=true:=rfl;have o:wrap64 (f.slots - 1)=f.slots - 1:=IntWalk.wrap64_in _ Ou;have m:wrap64 ((c.length:Int) - 1)=(c.length:Int) - 1:=IntWalk.wrap64_in _ Ou;obtain⟨r,g⟩:∃ r,Hid (Aq c f ⟨12,a,n,text⟩=r):=⟨_,(rfl:Aq c f ⟨12,a,n,text⟩=_)⟩;rw[g.out];unfold Bp Aw;by_cases hn:n=0
 ·subst hn;cases hx:text.toList.isEmpty with
  | true =>
   have h:Hid (r=((decide (a=1) && decide (f.result≠0)) || (decide (a=0) && decide (f.result=0)))):=g.out.symm.trans (O8 c f a text hx);clear g;by_cases h1:a=1
   ·subst h1;by_cases h2:f.result=0
    ·have k:(f.result != 0)=false:=(by simp[h2]);have j:(f.result == 0)=true:=(by simp[h2]);go_enter Tryz.func111,Tryz.ntmps111;go_wp2_with fail;go_at_call 22;refine(Cf _ _ _ _).mono ?_;rintro e w' ⟨rfl,rfl⟩;rw[b];go_wp2_with fail;go_at_call 138;refine(Dz _ _).mono ?_;rintro e w' ⟨rfl,rfl⟩;rw[d];go_wp2_with fail;go_ret;exact⟨Ap (by rw[h.out];simp[h2]),Gy w _ _ _⟩
    ·have k:(f.result != 0)=true:=(by simp[h2]);go_enter Tryz.func111,Tryz.ntmps111;go_wp2_with fail;go_at_call 22;refine(Cf _ _ _ _).mono ?_;rintro e w' ⟨rfl,rfl⟩;rw[b];go_wp2_with fail;go_at_call 138;refine(Dz _ _).mono ?_;rintro e w' ⟨rfl,rfl⟩;rw[d];go_wp2_with fail;go_ret;exact⟨Ap (by rw[h.out];simp[h2]),Gy w _ _ _⟩
   ·have p:(a == 1)=false:=(by simp[h1]);by_cases h6:a=0
    ·subst h6;by_cases h2:f.result=0
     ·have j:(f.result == 0)=true:=(by simp[h2]);go_enter Tryz.func111,Tryz.ntmps111;go_wp2_with fail;go_at_call 22;refine(Cf _ _ _ _).mono ?_;rintro e w' ⟨rfl,rfl⟩;rw[b];go_wp2_with fail;go_at_call 138;refine(Dz _ _).mono ?_;rintro e w' ⟨rfl,rfl⟩;rw[d];go_wp2_with fail;go_ret;exact⟨Ap (by rw[h.out];simp[h2]),Gy w _ _ _⟩
     ·have j:(f.result == 0)=false:=(by simp[h2]);go_enter Tryz.func111,Tryz.ntmps111;go_wp2_with fail;go_at_call 22;refine(Cf _ _ _ _).mono ?_;rintro e w' ⟨rfl,rfl⟩;rw[b];go_wp2_with fail;go_at_call 138;refine(Dz _ _).mono ?_;rintro e w' ⟨rfl,rfl⟩;rw[d];go_wp2_with fail;go_ret;exact⟨Ap (by rw[h.out];simp[h2]),Gy w _ _ _⟩
    ·have q:(a == 0)=false:=(by simp[h6]);go_enter Tryz.func111,Tryz.ntmps111;go_wp2_with fail;go_at_call 22;refine(Cf _ _ _ _).mono ?_;rintro e w' ⟨rfl,rfl⟩;rw[b];go_wp2_with fail;go_at_call 138;refine(Dz _ _).mono ?_;rintro e w' ⟨rfl,rfl⟩;rw[d];go_wp2_with fail;go_ret;exact⟨Ap (by rw[h.out];simp[h1,h6]),Gy w _ _ _⟩
  | false =>
   have i:Hid (false=r):=(Ha c f ⟨12,a,0,text⟩ OB (.inr hx)).symm.trans g.out;clear g;go_enter Tryz.func111,Tryz.ntmps111;go_wp2_with fail;go_at_call 22;refine(Cf _ _ _ _).mono ?_;rintro e w' ⟨rfl,rfl⟩;rw[b];go_wp2_with fail;go_at_call 138;refine(Dz _ _).mono ?_;rintro e w' ⟨rfl,rfl⟩;rw[d];go_wp2_with fail;go_ret;exact⟨Ap i.out,Gy w _ _ _⟩
 ·have l:(n != 0)=true:=by simp[hn]
  have i:Hid (false=r):=(Ha c f ⟨12,a,n,text⟩ OB (.inl hn)).symm.trans g.out;clear g;go_enter Tryz.func111,Tryz.ntmps111;go_wp2_with fail;go_at_call 22;refine(Cf _ _ _ _).mono ?_;rintro e w' ⟨rfl,rfl⟩;rw[b];go_wp2_with fail;go_at_call 138;refine(Dz _ _).mono ?_;rintro e w' ⟨rfl,rfl⟩;rw[d];go_wp2_with fail;go_ret;exact⟨Ap i.out,Gy w _ _ _⟩
theorem Zi (c:List Af) (f:Af) (i:Az) (cv pv iv:Value) (h:As i.op 1 16=false) (w:World) :
  Calls Tryz.prog 111 #[.agg #[cv],Bp f pv iv,Aw i] w fun e w'=>e = .returned (.bool (Aq c f i))/\OH w w':=by
 have a:Hid (As i.op 1 16=false):=h;have b:Hid (false=Aq c f i):=by rw[Hid,Aq,if_pos (.inl h)]
 clear h;unfold Bp Aw;go_enter Tryz.func111,Tryz.ntmps111;go_wp2_with (first|(go_at_call 22;refine(Ks false _ _ _ a _).mono ?_;rintro e w' ⟨rfl,rfl⟩));go_ret;exact⟨Ap b.out,Gy w _ _ _⟩
theorem Ze (c:List Af) (f:Af) (i:Az) (ca ia:Option Addr) (ccap icap:Nat) (pv:Value) (hs0:0<=f.slots) (hs1:f.slots<=200) (hcl:1<=c.length) (hcl2:c.length<=60) (hil:f.ins.length<=50000) (w:World) :
  Calls Tryz.prog 111 #[.agg #[.slice ca c.length ccap],Bp f pv (.slice ia f.ins.length icap),Aw i] w fun e w'=>e = .returned (.bool (Aq c f i))/\OH w w':=by
 obtain⟨b,a,n,d⟩:=i;by_cases h:As b 1 16=true
 ·have j:b=1\/b=2\/b=3\/b=4\/b=5\/b=6\/b=7\/b=8\/b=9\/b=10\/b=11\/b=12\/b=13\/b=14\/b=15\/b=16:=by
   unfold As at h;simp at h;omega
  by_cases h1:b=1
  ·subst h1;exact Qdd c f a n d _ pv _ w
  by_cases h12:b=12
  ·subst h12;exact Qbk c f a n d ca ia ccap icap pv hs0 hs1 hcl hcl2 hil w
  by_cases hb:(Dr b=false/\a≠0)\/n≠0\/d.toList.isEmpty=false
  ·exact Un c f b a n d _ pv _ h1 h hb w
  ·have g:n=0:=by
    by_cases e:n=0
    ·exact e
    ·exact absurd (.inr (.inl e)) hb
   subst g;refine Um c f b a d ca ia ccap icap pv hs0 hs1 hcl hcl2 Ou ?_ ?_ w
   ·cases hA:Dr b with
    | true=>exact .inl rfl
    | false =>
     right;by_cases e:a=0
     ·exact e
     ·exact absurd (.inl ⟨hA,e⟩) hb
   ·cases hx:d.toList.isEmpty with
    | true=>rfl
    | false=>exact absurd (.inr (.inr hx)) hb
 ·exact Zi c f ⟨b,a,n,d⟩ _ pv _ (by simpa using h) w
end Go.Proofs.YtahibkjkpmdhgaaGreatDoor
