import Derived.Test.YtbkhedpabfanoaaGreatDoorKCdA
namespace Go.Proofs.YtbkhedpabfanoaaGreatDoor
open Go.RowKit

theorem Cd.insOk_bad (c:List Cd.Fn) (f:Cd.Fn) (i:Cd.Ins) (h1:i.op≠1) (h:i.n≠0∨i.text.toList.isEmpty=false):Cd.insOk c f i=false:=by
  unfold Cd.insOk
  by_cases hc:Cd.inR i.op 1 16=false∨(Cd.hasA i.op=false∧i.a≠0)
  · rw [if_pos hc]
  · rw [if_neg hc,if_neg h1,if_pos h]
theorem Cd.insOk_a (c:List Cd.Fn) (f:Cd.Fn) (i:Cd.Ins) (h1:Cd.hasA i.op=false) (h:i.a≠0):Cd.insOk c f i=false:=by
  unfold Cd.insOk
  rw [if_pos (.inr ⟨h1,h⟩)]
def Cd.good (c:List Cd.Fn) (f:Cd.Fn) (op a:Int):Bool :=
  if op=2∨op=3 then Cd.inR a 0 (f.slots - 1)
  else if op=5 then Cd.inR a 1 3
  else if op=6 then Cd.inR a 3 18
  else if op=7 then Cd.isInt a
  else if op=8 then Cd.inR a 1 12
  else if op=9 then Cd.inR a 0 ((c.length:Int) - 1)
  else if op=10∨op=11 then Cd.inR a 0 (f.ins.length:Int)
  else true
theorem Cd.insOk_good (c:List Cd.Fn) (f:Cd.Fn) (op a:Int) (text:ByteArray) (h1:op≠1) (h12:op≠12) (hin:Cd.inR op 1 16=true) (ha:Cd.hasA op=true∨a=0) (hx:text.toList.isEmpty=true):Cd.insOk c f ⟨op,a,0,text⟩=Cd.good c f op a:=by
  have hc:¬ (Cd.inR op 1 16=false∨(Cd.hasA op=false∧a≠0)):=by
    rw [hin]
    rcases ha with ha | ha
    · rw [ha];simp
    · simp [ha]
  simp only [Cd.insOk]
  rw [if_neg hc,if_neg h1,if_neg (by simp [hx])]
  unfold Cd.good
  by_cases g1:op=2∨op=3
  · rw [if_pos g1,if_pos g1]
  rw [if_neg g1,if_neg g1]
  by_cases g2:op=5
  · rw [if_pos g2,if_pos g2]
  rw [if_neg g2,if_neg g2]
  by_cases g3:op=6
  · rw [if_pos g3,if_pos g3]
  rw [if_neg g3,if_neg g3]
  by_cases g4:op=7
  · rw [if_pos g4,if_pos g4]
  rw [if_neg g4,if_neg g4]
  by_cases g5:op=8
  · rw [if_pos g5,if_pos g5]
  rw [if_neg g5,if_neg g5]
  by_cases g6:op=9
  · rw [if_pos g6,if_pos g6]
  rw [if_neg g6,if_neg g6]
  by_cases g7:op=10∨op=11
  · rw [if_pos g7,if_pos g7]
  rw [if_neg g7,if_neg g7,if_neg h12]
theorem Cd.insOk_eq2 (c:List Cd.Fn) (f:Cd.Fn) (a:Int) (text:ByteArray) (hx:text.toList.isEmpty=true):Cd.insOk c f ⟨2,a,0,text⟩=Cd.inR a 0 (f.slots - 1):=Cd.insOk_good c f 2 a text (by decide) (by decide) rfl (.inl rfl) hx
theorem Cd.insOk_eq8 (c:List Cd.Fn) (f:Cd.Fn) (a:Int) (text:ByteArray) (hx:text.toList.isEmpty=true):Cd.insOk c f ⟨8,a,0,text⟩=Cd.inR a 1 12:=Cd.insOk_good c f 8 a text (by decide) (by decide) rfl (.inl rfl) hx
theorem Cd.insOk_eq9 (c:List Cd.Fn) (f:Cd.Fn) (a:Int) (text:ByteArray) (hx:text.toList.isEmpty=true):Cd.insOk c f ⟨9,a,0,text⟩=Cd.inR a 0 ((c.length:Int) - 1):=Cd.insOk_good c f 9 a text (by decide) (by decide) rfl (.inl rfl) hx
set_option maxRecDepth 100000 in
set_option maxHeartbeats 1000000 in
theorem Cd.insOk_worse (c:List Cd.Fn) (f:Cd.Fn) (op a n:Int) (text:ByteArray) (cv pv iv:Value) (h1:op≠1) (hin:Cd.inR op 1 16=true) (h:(Cd.hasA op=false∧a≠0)∨n≠0∨text.toList.isEmpty=false) (w:World) :
    Calls Tryz.prog 61 #[.agg #[cv],Cd.fnV f pv iv,Cd.insV ⟨op,a,n,text⟩] w fun e w'=>e = .returned (.bool (Cd.insOk c f ⟨op,a,n,text⟩))∧Below w.heap.size w w':=by
  have HF:Hid (false=Cd.insOk c f ⟨op,a,n,text⟩):=by
    rcases h with h | h
    · exact (Cd.insOk_a c f ⟨op,a,n,text⟩ h.1 h.2).symm
    · exact (Cd.insOk_bad c f ⟨op,a,n,text⟩ h1 h).symm
  have HIN:Hid (Cd.inR op 1 16=true):=hin
  have hob:(op == 1)=false:=by simp [h1]
  obtain ⟨b,HB⟩:∃ b,Hid (Cd.hasA op=b):=⟨_,(rfl:Cd.hasA op=_)⟩
  rw [HB.out] at h
  clear h1 hin
  unfold Cd.fnV Cd.insV
  by_cases ha:b=false∧a≠0
  · obtain ⟨rfl,ha⟩:=ha
    have hab:(a != 0)=true:=by simp [ha]
    clear h
    go_enter Tryz.func61,Tryz.ntmps61
    go_wp2_with (first | (go_at_call 46;refine (Cd.in_is true _ _ _ HIN _).mono ?_;rintro e w' ⟨rfl,rfl⟩) | (go_at_call 33;refine (Cd.hasA_any _ _).mono ?_;rintro e w' ⟨rfl,rfl⟩;rw [HB.out]))
    go_ret
    exact ⟨Cd.ret_bool HF.out,Cd.b3 w _ _ _⟩
  · have hab:b=false→(a != 0)=false:=fun hb=>by
      by_cases h0:a=0
      · simp [h0]
      · exact absurd ⟨hb,h0⟩ ha
    have h2:n≠0∨text.toList.isEmpty=false:=by
      rcases h with h | h
      · exact absurd h ha
      · exact h
    clear h ha
    by_cases hn:n=0
    · subst hn
      have hx:text.toList.isEmpty=false:=by
        rcases h2 with h | h
        · exact absurd rfl h
        · exact h
      clear h2
      cases b
      · have hab:=hab rfl
        go_enter Tryz.func61,Tryz.ntmps61
        go_wp2_with (first | (go_at_call 46;refine (Cd.in_is true _ _ _ HIN _).mono ?_;rintro e w' ⟨rfl,rfl⟩) | (go_at_call 33;refine (Cd.hasA_any _ _).mono ?_;rintro e w' ⟨rfl,rfl⟩;rw [HB.out]))
        go_ret
        exact ⟨Cd.ret_bool HF.out,Cd.b3 w _ _ _⟩
      · clear hab
        go_enter Tryz.func61,Tryz.ntmps61
        go_wp2_with (first | (go_at_call 46;refine (Cd.in_is true _ _ _ HIN _).mono ?_;rintro e w' ⟨rfl,rfl⟩) | (go_at_call 33;refine (Cd.hasA_any _ _).mono ?_;rintro e w' ⟨rfl,rfl⟩;rw [HB.out]))
        go_ret
        exact ⟨Cd.ret_bool HF.out,Cd.b3 w _ _ _⟩
    · have hnb:(n != 0)=true:=by simp [hn]
      clear h2
      cases b
      · have hab:=hab rfl
        go_enter Tryz.func61,Tryz.ntmps61
        go_wp2_with (first | (go_at_call 46;refine (Cd.in_is true _ _ _ HIN _).mono ?_;rintro e w' ⟨rfl,rfl⟩) | (go_at_call 33;refine (Cd.hasA_any _ _).mono ?_;rintro e w' ⟨rfl,rfl⟩;rw [HB.out]))
        go_ret
        exact ⟨Cd.ret_bool HF.out,Cd.b3 w _ _ _⟩
      · clear hab
        go_enter Tryz.func61,Tryz.ntmps61
        go_wp2_with (first | (go_at_call 46;refine (Cd.in_is true _ _ _ HIN _).mono ?_;rintro e w' ⟨rfl,rfl⟩) | (go_at_call 33;refine (Cd.hasA_any _ _).mono ?_;rintro e w' ⟨rfl,rfl⟩;rw [HB.out]))
        go_ret
        exact ⟨Cd.ret_bool HF.out,Cd.b3 w _ _ _⟩
set_option maxRecDepth 100000 in
set_option maxHeartbeats 8000000 in
theorem Cd.insOk_right (c:List Cd.Fn) (f:Cd.Fn) (op a:Int) (text:ByteArray) (ca ia:Option Addr) (ccap icap:Nat) (pv:Value) (hs0:0≤f.slots) (hs1:f.slots≤200) (hcl:1≤c.length) (hcl2:c.length≤60) (hop:op=2∨op=3∨op=4∨op=5∨op=6∨op=7∨op=8∨op=9∨op=10∨op=11∨op=13∨op=14∨op=15∨op=16) (ha:Cd.hasA op=true∨a=0) (hx:text.toList.isEmpty=true) (w:World) :
    Calls Tryz.prog 61 #[.agg #[.slice ca c.length ccap],Cd.fnV f pv (.slice ia f.ins.length icap),Cd.insV ⟨op,a,0,text⟩] w fun e w'=>e = .returned (.bool (Cd.insOk c f ⟨op,a,0,text⟩))∧Below w.heap.size w w':=by
  have hws:wrap64 (f.slots - 1)=f.slots - 1:=IntWalk.wrap64_in _ (by omega)
  have hwc:wrap64 ((c.length:Int) - 1)=(c.length:Int) - 1:=IntWalk.wrap64_in _ (by omega)
  rw [Cd.insOk_good c f op a text (by omega) (by omega) (by rcases hop with rfl | rfl | rfl | rfl | rfl | rfl | rfl | rfl | rfl | rfl | rfl | rfl | rfl | rfl <;> rfl) ha hx]
  unfold Cd.fnV Cd.insV
  rcases hop with rfl | rfl | rfl | rfl | rfl | rfl | rfl | rfl | rfl | rfl | rfl | rfl | rfl | rfl
  all_goals
    have hab:Cd.hasA _=true∨(a != 0)=false:=ha.imp id (fun h=>by simp [h])
    (first | (replace hab:(a != 0)=false:=hab.resolve_left (by decide)) | clear hab)
    clear ha
    go_enter Tryz.func61,Tryz.ntmps61
    go_wp2_with fail
    go_at_call 46;refine (Cd.in_any _ _ _ _).mono ?_;rintro e w' ⟨rfl,rfl⟩;rw [show Cd.inR _ 1 16=true from rfl]
    go_wp2_with fail
    go_at_call 33;refine (Cd.hasA_any _ _).mono ?_;rintro e w' ⟨rfl,rfl⟩;first | rw [show Cd.hasA _=true from rfl] | rw [show Cd.hasA _=false from rfl]
    go_wp2_with (first | (go_at_call 46;(try rw [hws]);(try rw [hwc]);refine (Cd.in_any _ _ _ _).mono ?_;rintro e w' ⟨rfl,rfl⟩) | (go_at_call 77;refine (Cd.l1Integer_any _ _).mono ?_;rintro e w' ⟨rfl,rfl⟩))
    go_ret
    exact ⟨Cd.ret_bool rfl,Cd.b3 w _ _ _⟩
theorem Cd.insOk_eq12 (c:List Cd.Fn) (f:Cd.Fn) (a:Int) (text:ByteArray) (hx:text.toList.isEmpty=true):Cd.insOk c f ⟨12,a,0,text⟩=((decide (a=1) && decide (f.result≠0)) || (decide (a=0) && decide (f.result=0))):=by
  have HIN:Cd.inR 12 1 16=true:=rfl
  have HA:Cd.hasA 12=true:=rfl
  simp only [Cd.insOk]
  rw [if_neg (by simp [HIN,HA])]
  rw [if_neg (by decide),if_neg (by simp [hx]),if_neg (by decide),if_neg (by decide),if_neg (by decide),if_neg (by decide),if_neg (by decide),if_neg (by decide),if_neg (by decide),if_pos (by decide)]
set_option maxRecDepth 100000 in
set_option maxHeartbeats 1000000 in
theorem Cd.insOk_12 (c:List Cd.Fn) (f:Cd.Fn) (a n:Int) (text:ByteArray) (ca ia:Option Addr) (ccap icap:Nat) (pv:Value) (hs0:0≤f.slots) (hs1:f.slots≤200) (hcl:1≤c.length) (hcl2:c.length≤60) (_hil:f.ins.length≤50000) (w:World) :
    Calls Tryz.prog 61 #[.agg #[.slice ca c.length ccap],Cd.fnV f pv (.slice ia f.ins.length icap),Cd.insV ⟨12,a,n,text⟩] w fun e w'=>e = .returned (.bool (Cd.insOk c f ⟨12,a,n,text⟩))∧Below w.heap.size w w':=by
  have HIN:Cd.inR 12 1 16=true:=rfl
  have HA:Cd.hasA 12=true:=rfl
  have hws:wrap64 (f.slots - 1)=f.slots - 1:=IntWalk.wrap64_in _ (by omega)
  have hwc:wrap64 ((c.length:Int) - 1)=(c.length:Int) - 1:=IntWalk.wrap64_in _ (by omega)
  obtain ⟨r,HR⟩:∃ r,Hid (Cd.insOk c f ⟨12,a,n,text⟩=r):=⟨_,(rfl:Cd.insOk c f ⟨12,a,n,text⟩=_)⟩
  rw [HR.out]
  unfold Cd.fnV Cd.insV
  by_cases hn:n=0
  · subst hn
    cases hx:text.toList.isEmpty with
    | true =>
      have HV:Hid (r=((decide (a=1) && decide (f.result≠0)) || (decide (a=0) && decide (f.result=0)))):=HR.out.symm.trans (Cd.insOk_eq12 c f a text hx)
      clear HR
      by_cases h1:a=1
      · subst h1
        by_cases h2:f.result=0
        · have h3:(f.result != 0)=false:=by simp [h2]
          have h4:(f.result == 0)=true:=by simp [h2]
          go_enter Tryz.func61,Tryz.ntmps61
          go_wp2_with fail
          go_at_call 46;refine (Cd.in_any _ _ _ _).mono ?_;rintro e w' ⟨rfl,rfl⟩;rw [HIN]
          go_wp2_with fail
          go_at_call 33;refine (Cd.hasA_any _ _).mono ?_;rintro e w' ⟨rfl,rfl⟩;rw [HA]
          go_wp2_with fail
          go_ret
          exact ⟨Cd.ret_bool (by rw [HV.out];simp [h2]),Cd.b3 w _ _ _⟩
        · have h3:(f.result != 0)=true:=by simp [h2]
          go_enter Tryz.func61,Tryz.ntmps61
          go_wp2_with fail
          go_at_call 46;refine (Cd.in_any _ _ _ _).mono ?_;rintro e w' ⟨rfl,rfl⟩;rw [HIN]
          go_wp2_with fail
          go_at_call 33;refine (Cd.hasA_any _ _).mono ?_;rintro e w' ⟨rfl,rfl⟩;rw [HA]
          go_wp2_with fail
          go_ret
          exact ⟨Cd.ret_bool (by rw [HV.out];simp [h2]),Cd.b3 w _ _ _⟩
      · have h5:(a == 1)=false:=by simp [h1]
        by_cases h6:a=0
        · subst h6
          by_cases h2:f.result=0
          · have h4:(f.result == 0)=true:=by simp [h2]
            go_enter Tryz.func61,Tryz.ntmps61
            go_wp2_with fail
            go_at_call 46;refine (Cd.in_any _ _ _ _).mono ?_;rintro e w' ⟨rfl,rfl⟩;rw [HIN]
            go_wp2_with fail
            go_at_call 33;refine (Cd.hasA_any _ _).mono ?_;rintro e w' ⟨rfl,rfl⟩;rw [HA]
            go_wp2_with fail
            go_ret
            exact ⟨Cd.ret_bool (by rw [HV.out];simp [h2]),Cd.b3 w _ _ _⟩
          · have h4:(f.result == 0)=false:=by simp [h2]
            go_enter Tryz.func61,Tryz.ntmps61
            go_wp2_with fail
            go_at_call 46;refine (Cd.in_any _ _ _ _).mono ?_;rintro e w' ⟨rfl,rfl⟩;rw [HIN]
            go_wp2_with fail
            go_at_call 33;refine (Cd.hasA_any _ _).mono ?_;rintro e w' ⟨rfl,rfl⟩;rw [HA]
            go_wp2_with fail
            go_ret
            exact ⟨Cd.ret_bool (by rw [HV.out];simp [h2]),Cd.b3 w _ _ _⟩
        · have h7:(a == 0)=false:=by simp [h6]
          go_enter Tryz.func61,Tryz.ntmps61
          go_wp2_with fail
          go_at_call 46;refine (Cd.in_any _ _ _ _).mono ?_;rintro e w' ⟨rfl,rfl⟩;rw [HIN]
          go_wp2_with fail
          go_at_call 33;refine (Cd.hasA_any _ _).mono ?_;rintro e w' ⟨rfl,rfl⟩;rw [HA]
          go_wp2_with fail
          go_ret
          exact ⟨Cd.ret_bool (by rw [HV.out];simp [h1,h6]),Cd.b3 w _ _ _⟩
    | false =>
      have HF:Hid (false=r):=(Cd.insOk_bad c f ⟨12,a,0,text⟩ (by simp) (.inr hx)).symm.trans HR.out
      clear HR
      go_enter Tryz.func61,Tryz.ntmps61
      go_wp2_with fail
      go_at_call 46;refine (Cd.in_any _ _ _ _).mono ?_;rintro e w' ⟨rfl,rfl⟩;rw [HIN]
      go_wp2_with fail
      go_at_call 33;refine (Cd.hasA_any _ _).mono ?_;rintro e w' ⟨rfl,rfl⟩;rw [HA]
      go_wp2_with fail
      go_ret
      exact ⟨Cd.ret_bool HF.out,Cd.b3 w _ _ _⟩
  · have hnb:(n != 0)=true:=by simp [hn]
    have HF:Hid (false=r):=(Cd.insOk_bad c f ⟨12,a,n,text⟩ (by simp) (.inl hn)).symm.trans HR.out
    clear HR
    go_enter Tryz.func61,Tryz.ntmps61
    go_wp2_with fail
    go_at_call 46;refine (Cd.in_any _ _ _ _).mono ?_;rintro e w' ⟨rfl,rfl⟩;rw [HIN]
    go_wp2_with fail
    go_at_call 33;refine (Cd.hasA_any _ _).mono ?_;rintro e w' ⟨rfl,rfl⟩;rw [HA]
    go_wp2_with fail
    go_ret
    exact ⟨Cd.ret_bool HF.out,Cd.b3 w _ _ _⟩
set_option maxRecDepth 100000 in
set_option maxHeartbeats 1000000 in
theorem Cd.insOk_out (c:List Cd.Fn) (f:Cd.Fn) (i:Cd.Ins) (cv pv iv:Value) (h:Cd.inR i.op 1 16=false) (w:World) :
    Calls Tryz.prog 61 #[.agg #[cv],Cd.fnV f pv iv,Cd.insV i] w fun e w'=>e = .returned (.bool (Cd.insOk c f i))∧Below w.heap.size w w':=by
  have HIN:Hid (Cd.inR i.op 1 16=false):=h
  have HF:Hid (false=Cd.insOk c f i):=by rw [Hid,Cd.insOk,if_pos (.inl h)]
  clear h
  unfold Cd.fnV Cd.insV
  go_enter Tryz.func61,Tryz.ntmps61
  go_wp2_with (first | (go_at_call 46;refine (Cd.in_is false _ _ _ HIN _).mono ?_;rintro e w' ⟨rfl,rfl⟩))
  go_ret
  exact ⟨Cd.ret_bool HF.out,Cd.b3 w _ _ _⟩
theorem Cd.insOk_any (c:List Cd.Fn) (f:Cd.Fn) (i:Cd.Ins) (ca ia:Option Addr) (ccap icap:Nat) (pv:Value) (hs0:0≤f.slots) (hs1:f.slots≤200) (hcl:1≤c.length) (hcl2:c.length≤60) (hil:f.ins.length≤50000) (w:World) :
    Calls Tryz.prog 61 #[.agg #[.slice ca c.length ccap],Cd.fnV f pv (.slice ia f.ins.length icap),Cd.insV i] w fun e w'=>e = .returned (.bool (Cd.insOk c f i))∧Below w.heap.size w w':=by
  obtain ⟨op,a,n,text⟩:=i
  by_cases h:Cd.inR op 1 16=true
  · have h2:op=1∨op=2∨op=3∨op=4∨op=5∨op=6∨op=7∨op=8∨op=9∨op=10∨op=11∨op=12∨op=13∨op=14∨op=15∨op=16:=by
      unfold Cd.inR at h
      simp at h
      omega
    by_cases h1:op=1
    · subst h1;exact Cd.insOk_1 c f a n text _ pv _ w
    by_cases h12:op=12
    · subst h12;exact Cd.insOk_12 c f a n text ca ia ccap icap pv hs0 hs1 hcl hcl2 hil w
    by_cases hb:(Cd.hasA op=false∧a≠0)∨n≠0∨text.toList.isEmpty=false
    · exact Cd.insOk_worse c f op a n text _ pv _ h1 h hb w
    · have hn:n=0:=by
        by_cases e:n=0
        · exact e
        · exact absurd (.inr (.inl e)) hb
      subst hn
      refine Cd.insOk_right c f op a text ca ia ccap icap pv hs0 hs1 hcl hcl2 (by omega) ?_ ?_ w
      · cases hA:Cd.hasA op with
        | true=>exact .inl rfl
        | false =>
          right
          by_cases e:a=0
          · exact e
          · exact absurd (.inl ⟨hA,e⟩) hb
      · cases hx:text.toList.isEmpty with
        | true=>rfl
        | false=>exact absurd (.inr (.inr hx)) hb
  · exact Cd.insOk_out c f ⟨op,a,n,text⟩ _ pv _ (by simpa using h) w
end Go.Proofs.YtbkhedpabfanoaaGreatDoor
