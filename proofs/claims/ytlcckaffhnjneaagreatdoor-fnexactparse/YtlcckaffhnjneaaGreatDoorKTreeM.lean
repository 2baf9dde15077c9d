import Derived.Test.YtlcckaffhnjneaaGreatDoorKTreeL
set_option maxRecDepth 100000
set_option maxHeartbeats 4000000
namespace Go.Proofs.YtlcckaffhnjneaaGreatDoor
open Go.RowKit
theorem Mill.noES {ks:List Int} (o:Int) (k:Int) (hk:k=10∨k=11∨k=14∨k=15∨k=16∨k=17∨k=18∨k=19) (h:ks.all Mill.isE=false):Mill.fits k o ks=false:=by
 have:ks≠[]:=by intro h0;subst h0;simp at h
 have hl:ks.length≠0:=by intro h0;exact this (List.eq_nil_of_length_eq_zero h0)
 rcases hk with rfl | rfl | rfl | rfl | rfl | rfl | rfl | rfl <;> simp [Mill.fits,Mill.oneE_iff,h] <;> simpa using hl
theorem grownStatement_10 (o t y:Int) (x:ByteArray) (k:Int) (P:Nat→Prop) (us:List Value) (ks:List Int) (S:Value) (n:Nat) (HN:Hid (ks.length=n)) (w:World) (hP:∀ g,P g→g < w.heap.size) (hS:Mill.Sl P w S n us) (hk:Mill.Kinded us ks) (hl:n≤1000000) :
  Calls Tryz.prog 104 #[Mill.ndV ⟨10,o,t,y,x,k⟩,S] w fun e w'=>Mill.Grown P w ⟨10,o,t,y,x,k⟩ us ks e w':=by
 have hbw:=(Below.refl w.heap.size w).alloc (Nat.le_refl _) (.cells #[.int .i64 10,.int .i64 o,.int .i64 t,.int .i64 y,.string x,.int .i64 k] 43)
 have hS1:=hS.alloc hP (.cells #[.int .i64 10,.int .i64 o,.int .i64 t,.int .i64 y,.string x,.int .i64 k] 43)
 obtain ⟨a,c,rfl,hc⟩:=hS
 have hul:us.length=n:=by rw [hk.1];exact HN.out
 simp only [Mill.ndV]
 cases hE:ks.all Mill.isE with
 | false =>
  have HE:Hid (ks.all Mill.isE=false):=hE
  have HF:Hid (Mill.fits 10 o ks=false):=Mill.noES o 10 (by omega) hE
  clear hE
  go_enter Tryz.func104,Tryz.ntmps104
  go_wp2_with (go_at_call 105;refine (allValue_is false P us ks HE _ n HN _ hS1 hk hl).mono ?_;rintro e w' ⟨rfl,rfl⟩)
  go_ret
  exact ⟨hbw,.inr ⟨HF.out,rfl⟩⟩
 | true =>
  have HE:Hid (ks.all Mill.isE=true):=hE
  by_cases h1:n=1
  ·subst h1
   have HF:Hid (Mill.fits 10 o ks=true):=by rw [Hid];have:=HN.out;simp [Mill.fits,Mill.oneE_iff,this,hE]
   clear hE
   obtain ⟨tu,yu,rfl⟩:=Mill.us1 hk hul
   obtain ⟨g,rfl,hg,c0⟩:=hc 0 _ rfl
   have hg2:=hP g hg
   clear hc
   go_enter Tryz.func104,Tryz.ntmps104
   go_wp2_with (go_at_call 105;refine (allValue_is true P _ ks HE _ 1 HN _ hS1 hk hl).mono ?_;rintro e w' ⟨rfl,rfl⟩)
   go_quiet (fail)
   go_wp2
   go_ret
   refine ⟨Mill.below_drewN _ hbw,.inl ⟨HF.out,_,rfl,by simp,by simp,_,rfl,by simp [Mill.Inner]⟩⟩
  ·have HF:Hid (Mill.fits 10 o ks=false):=by rw [Hid];have:=HN.out;simp [Mill.fits,Mill.oneE_iff,this,h1]
   have h1':((n:Int) == 1)=false:=by simpa using (by omega:¬ (n:Int)=1)
   clear hE h1 hul
   go_enter Tryz.func104,Tryz.ntmps104
   go_wp2_with (go_at_call 105;refine (allValue_is true P us ks HE _ n HN _ hS1 hk hl).mono ?_;rintro e w' ⟨rfl,rfl⟩)
   go_ret
   exact ⟨hbw,.inr ⟨HF.out,rfl⟩⟩
theorem grownStatement_11 (o t y:Int) (x:ByteArray) (k:Int) (P:Nat→Prop) (us:List Value) (ks:List Int) (S:Value) (n:Nat) (HN:Hid (ks.length=n)) (w:World) (hP:∀ g,P g→g < w.heap.size) (hS:Mill.Sl P w S n us) (hk:Mill.Kinded us ks) (hl:n≤1000000) :
  Calls Tryz.prog 104 #[Mill.ndV ⟨11,o,t,y,x,k⟩,S] w fun e w'=>Mill.Grown P w ⟨11,o,t,y,x,k⟩ us ks e w':=by
 have hbw:=(Below.refl w.heap.size w).alloc (Nat.le_refl _) (.cells #[.int .i64 11,.int .i64 o,.int .i64 t,.int .i64 y,.string x,.int .i64 k] 43)
 have hS1:=hS.alloc hP (.cells #[.int .i64 11,.int .i64 o,.int .i64 t,.int .i64 y,.string x,.int .i64 k] 43)
 obtain ⟨a,c,rfl,hc⟩:=hS
 have hul:us.length=n:=by rw [hk.1];exact HN.out
 simp only [Mill.ndV]
 cases hE:ks.all Mill.isE with
 | false =>
  have HE:Hid (ks.all Mill.isE=false):=hE
  have HF:Hid (Mill.fits 11 o ks=false):=Mill.noES o 11 (by omega) hE
  clear hE
  go_enter Tryz.func104,Tryz.ntmps104
  go_wp2_with (go_at_call 105;refine (allValue_is false P us ks HE _ n HN _ hS1 hk hl).mono ?_;rintro e w' ⟨rfl,rfl⟩)
  go_ret
  exact ⟨hbw,.inr ⟨HF.out,rfl⟩⟩
 | true =>
  have HE:Hid (ks.all Mill.isE=true):=hE
  by_cases h1:n=1
  ·subst h1
   have HF:Hid (Mill.fits 11 o ks=true):=by rw [Hid];have:=HN.out;simp [Mill.fits,Mill.oneE_iff,this,hE]
   clear hE
   obtain ⟨tu,yu,rfl⟩:=Mill.us1 hk hul
   obtain ⟨g,rfl,hg,c0⟩:=hc 0 _ rfl
   have hg2:=hP g hg
   clear hc
   go_enter Tryz.func104,Tryz.ntmps104
   go_wp2_with (go_at_call 105;refine (allValue_is true P _ ks HE _ 1 HN _ hS1 hk hl).mono ?_;rintro e w' ⟨rfl,rfl⟩)
   go_quiet (fail)
   go_wp2
   go_ret
   refine ⟨Mill.below_drewN _ hbw,.inl ⟨HF.out,_,rfl,by simp,by simp,_,rfl,by simp [Mill.Inner]⟩⟩
  ·have HF:Hid (Mill.fits 11 o ks=false):=by rw [Hid];have:=HN.out;simp [Mill.fits,Mill.oneE_iff,this,h1]
   have h1':((n:Int) == 1)=false:=by simpa using (by omega:¬ (n:Int)=1)
   clear hE h1 hul
   go_enter Tryz.func104,Tryz.ntmps104
   go_wp2_with (go_at_call 105;refine (allValue_is true P us ks HE _ n HN _ hS1 hk hl).mono ?_;rintro e w' ⟨rfl,rfl⟩)
   go_ret
   exact ⟨hbw,.inr ⟨HF.out,rfl⟩⟩
theorem grownStatement_14 (o t y:Int) (x:ByteArray) (k:Int) (P:Nat→Prop) (us:List Value) (ks:List Int) (S:Value) (n:Nat) (HN:Hid (ks.length=n)) (w:World) (hP:∀ g,P g→g < w.heap.size) (hS:Mill.Sl P w S n us) (hk:Mill.Kinded us ks) (hl:n≤1000000) :
  Calls Tryz.prog 104 #[Mill.ndV ⟨14,o,t,y,x,k⟩,S] w fun e w'=>Mill.Grown P w ⟨14,o,t,y,x,k⟩ us ks e w':=by
 have hbw:=(Below.refl w.heap.size w).alloc (Nat.le_refl _) (.cells #[.int .i64 14,.int .i64 o,.int .i64 t,.int .i64 y,.string x,.int .i64 k] 43)
 have hS1:=hS.alloc hP (.cells #[.int .i64 14,.int .i64 o,.int .i64 t,.int .i64 y,.string x,.int .i64 k] 43)
 obtain ⟨a,c,rfl,hc⟩:=hS
 have hul:us.length=n:=by rw [hk.1];exact HN.out
 simp only [Mill.ndV]
 cases hE:ks.all Mill.isE with
 | false =>
  have HE:Hid (ks.all Mill.isE=false):=hE
  have HF:Hid (Mill.fits 14 o ks=false):=Mill.noES o 14 (by omega) hE
  clear hE
  go_enter Tryz.func104,Tryz.ntmps104
  go_wp2_with (go_at_call 105;refine (allValue_is false P us ks HE _ n HN _ hS1 hk hl).mono ?_;rintro e w' ⟨rfl,rfl⟩)
  go_ret
  exact ⟨hbw,.inr ⟨HF.out,rfl⟩⟩
 | true =>
  have HE:Hid (ks.all Mill.isE=true):=hE
  by_cases h1:n=0
  ·subst h1
   have HF:Hid (Mill.fits 14 o ks=true):=by rw [Hid];have:=HN.out;simp [Mill.fits,this]
   clear hE
   obtain rfl:=Mill.us0 hul
   clear hc
   go_enter Tryz.func104,Tryz.ntmps104
   go_wp2_with (go_at_call 105;refine (allValue_is true P _ ks HE _ 0 HN _ hS1 hk hl).mono ?_;rintro e w' ⟨rfl,rfl⟩)
   go_ret
   refine ⟨hbw,.inl ⟨HF.out,_,rfl,by simp,by simp,_,rfl,by simp [Mill.Inner]⟩⟩
  ·have HF:Hid (Mill.fits 14 o ks=false):=by rw [Hid];have:=HN.out;simp [Mill.fits,this,h1]
   have h1':((n:Int) == 0)=false:=by simpa using (by omega:¬ (n:Int)=0)
   clear hE h1 hul
   go_enter Tryz.func104,Tryz.ntmps104
   go_wp2_with (go_at_call 105;refine (allValue_is true P us ks HE _ n HN _ hS1 hk hl).mono ?_;rintro e w' ⟨rfl,rfl⟩)
   go_ret
   exact ⟨hbw,.inr ⟨HF.out,rfl⟩⟩
theorem grownStatement_15 (o t y:Int) (x:ByteArray) (k:Int) (P:Nat→Prop) (us:List Value) (ks:List Int) (S:Value) (n:Nat) (HN:Hid (ks.length=n)) (w:World) (hP:∀ g,P g→g < w.heap.size) (hS:Mill.Sl P w S n us) (hk:Mill.Kinded us ks) (hl:n≤1000000) :
  Calls Tryz.prog 104 #[Mill.ndV ⟨15,o,t,y,x,k⟩,S] w fun e w'=>Mill.Grown P w ⟨15,o,t,y,x,k⟩ us ks e w':=by
 have hbw:=(Below.refl w.heap.size w).alloc (Nat.le_refl _) (.cells #[.int .i64 15,.int .i64 o,.int .i64 t,.int .i64 y,.string x,.int .i64 k] 43)
 have hS1:=hS.alloc hP (.cells #[.int .i64 15,.int .i64 o,.int .i64 t,.int .i64 y,.string x,.int .i64 k] 43)
 obtain ⟨a,c,rfl,hc⟩:=hS
 have hul:us.length=n:=by rw [hk.1];exact HN.out
 simp only [Mill.ndV]
 cases hE:ks.all Mill.isE with
 | false =>
  have HE:Hid (ks.all Mill.isE=false):=hE
  have HF:Hid (Mill.fits 15 o ks=false):=Mill.noES o 15 (by omega) hE
  clear hE
  go_enter Tryz.func104,Tryz.ntmps104
  go_wp2_with (go_at_call 105;refine (allValue_is false P us ks HE _ n HN _ hS1 hk hl).mono ?_;rintro e w' ⟨rfl,rfl⟩)
  go_ret
  exact ⟨hbw,.inr ⟨HF.out,rfl⟩⟩
 | true =>
  have HE:Hid (ks.all Mill.isE=true):=hE
  by_cases h1:n=0
  ·subst h1
   have HF:Hid (Mill.fits 15 o ks=true):=by rw [Hid];have:=HN.out;simp [Mill.fits,this]
   clear hE
   obtain rfl:=Mill.us0 hul
   clear hc
   go_enter Tryz.func104,Tryz.ntmps104
   go_wp2_with (go_at_call 105;refine (allValue_is true P _ ks HE _ 0 HN _ hS1 hk hl).mono ?_;rintro e w' ⟨rfl,rfl⟩)
   go_ret
   refine ⟨hbw,.inl ⟨HF.out,_,rfl,by simp,by simp,_,rfl,by simp [Mill.Inner]⟩⟩
  ·have HF:Hid (Mill.fits 15 o ks=false):=by rw [Hid];have:=HN.out;simp [Mill.fits,this,h1]
   have h1':((n:Int) == 0)=false:=by simpa using (by omega:¬ (n:Int)=0)
   clear hE h1 hul
   go_enter Tryz.func104,Tryz.ntmps104
   go_wp2_with (go_at_call 105;refine (allValue_is true P us ks HE _ n HN _ hS1 hk hl).mono ?_;rintro e w' ⟨rfl,rfl⟩)
   go_ret
   exact ⟨hbw,.inr ⟨HF.out,rfl⟩⟩
theorem grownStatement_17 (o t y:Int) (x:ByteArray) (k:Int) (P:Nat→Prop) (us:List Value) (ks:List Int) (S:Value) (n:Nat) (HN:Hid (ks.length=n)) (w:World) (hP:∀ g,P g→g < w.heap.size) (hS:Mill.Sl P w S n us) (hk:Mill.Kinded us ks) (hl:n≤1000000) :
  Calls Tryz.prog 104 #[Mill.ndV ⟨17,o,t,y,x,k⟩,S] w fun e w'=>Mill.Grown P w ⟨17,o,t,y,x,k⟩ us ks e w':=by
 have hbw:=(Below.refl w.heap.size w).alloc (Nat.le_refl _) (.cells #[.int .i64 17,.int .i64 o,.int .i64 t,.int .i64 y,.string x,.int .i64 k] 43)
 have hS1:=hS.alloc hP (.cells #[.int .i64 17,.int .i64 o,.int .i64 t,.int .i64 y,.string x,.int .i64 k] 43)
 obtain ⟨a,c,rfl,hc⟩:=hS
 have hul:us.length=n:=by rw [hk.1];exact HN.out
 simp only [Mill.ndV]
 cases hE:ks.all Mill.isE with
 | false =>
  have HE:Hid (ks.all Mill.isE=false):=hE
  have HF:Hid (Mill.fits 17 o ks=false):=Mill.noES o 17 (by omega) hE
  clear hE
  go_enter Tryz.func104,Tryz.ntmps104
  go_wp2_with (go_at_call 105;refine (allValue_is false P us ks HE _ n HN _ hS1 hk hl).mono ?_;rintro e w' ⟨rfl,rfl⟩)
  go_ret
  exact ⟨hbw,.inr ⟨HF.out,rfl⟩⟩
 | true =>
  have HE:Hid (ks.all Mill.isE=true):=hE
  by_cases h1:n=1
  ·subst h1
   have HF:Hid (Mill.fits 17 o ks=true):=by rw [Hid];have:=HN.out;simp [Mill.fits,Mill.oneE_iff,this,hE]
   clear hE
   obtain ⟨tu,yu,rfl⟩:=Mill.us1 hk hul
   obtain ⟨g,rfl,hg,c0⟩:=hc 0 _ rfl
   have hg2:=hP g hg
   clear hc
   go_enter Tryz.func104,Tryz.ntmps104
   go_wp2_with (go_at_call 105;refine (allValue_is true P _ ks HE _ 1 HN _ hS1 hk hl).mono ?_;rintro e w' ⟨rfl,rfl⟩)
   go_ret
   refine ⟨hbw,.inl ⟨HF.out,_,rfl,by simp,by simp,_,rfl,by simp [Mill.Inner]⟩⟩
  ·have HF:Hid (Mill.fits 17 o ks=false):=by rw [Hid];have:=HN.out;simp [Mill.fits,Mill.oneE_iff,this,h1]
   have h1':((n:Int) == 1)=false:=by simpa using (by omega:¬ (n:Int)=1)
   clear hE h1 hul
   go_enter Tryz.func104,Tryz.ntmps104
   go_wp2_with (go_at_call 105;refine (allValue_is true P us ks HE _ n HN _ hS1 hk hl).mono ?_;rintro e w' ⟨rfl,rfl⟩)
   go_ret
   exact ⟨hbw,.inr ⟨HF.out,rfl⟩⟩
theorem grownStatement_18 (o t y:Int) (x:ByteArray) (k:Int) (P:Nat→Prop) (us:List Value) (ks:List Int) (S:Value) (n:Nat) (HN:Hid (ks.length=n)) (w:World) (hP:∀ g,P g→g < w.heap.size) (hS:Mill.Sl P w S n us) (hk:Mill.Kinded us ks) (hl:n≤1000000) :
  Calls Tryz.prog 104 #[Mill.ndV ⟨18,o,t,y,x,k⟩,S] w fun e w'=>Mill.Grown P w ⟨18,o,t,y,x,k⟩ us ks e w':=by
 have hbw:=(Below.refl w.heap.size w).alloc (Nat.le_refl _) (.cells #[.int .i64 18,.int .i64 o,.int .i64 t,.int .i64 y,.string x,.int .i64 k] 43)
 have hS1:=hS.alloc hP (.cells #[.int .i64 18,.int .i64 o,.int .i64 t,.int .i64 y,.string x,.int .i64 k] 43)
 obtain ⟨a,c,rfl,hc⟩:=hS
 have hul:us.length=n:=by rw [hk.1];exact HN.out
 simp only [Mill.ndV]
 cases hE:ks.all Mill.isE with
 | false =>
  have HE:Hid (ks.all Mill.isE=false):=hE
  have HF:Hid (Mill.fits 18 o ks=false):=Mill.noES o 18 (by omega) hE
  clear hE
  go_enter Tryz.func104,Tryz.ntmps104
  go_wp2_with (go_at_call 105;refine (allValue_is false P us ks HE _ n HN _ hS1 hk hl).mono ?_;rintro e w' ⟨rfl,rfl⟩)
  go_ret
  exact ⟨hbw,.inr ⟨HF.out,rfl⟩⟩
 | true =>
  have HE:Hid (ks.all Mill.isE=true):=hE
  by_cases h1:n=2
  ·subst h1
   have HF:Hid (Mill.fits 18 o ks=true):=by rw [Hid];have:=HN.out;simp [Mill.fits,this,hE]
   clear hE
   obtain ⟨tu,yu,tv,yv,rfl⟩:=Mill.us2 hk hul
   obtain ⟨g,rfl,hg,c0⟩:=hc 0 _ rfl
   obtain ⟨g',hg',_,c1⟩:=hc 1 _ rfl
   cases hg'
   have hg2:=hP g hg
   clear hc
   go_enter Tryz.func104,Tryz.ntmps104
   go_wp2_with (go_at_call 105;refine (allValue_is true P _ ks HE _ 2 HN _ hS1 hk hl).mono ?_;rintro e w' ⟨rfl,rfl⟩)
   go_quiet (fail)
   go_wp2
   go_ret
   refine ⟨Mill.below_drewN _ hbw,.inl ⟨HF.out,_,rfl,by simp,by simp,_,rfl,by simp [Mill.Inner]⟩⟩
  ·have HF:Hid (Mill.fits 18 o ks=false):=by rw [Hid];have:=HN.out;simp [Mill.fits,this,h1]
   have h1':((n:Int) == 2)=false:=by simpa using (by omega:¬ (n:Int)=2)
   clear hE h1 hul
   go_enter Tryz.func104,Tryz.ntmps104
   go_wp2_with (go_at_call 105;refine (allValue_is true P us ks HE _ n HN _ hS1 hk hl).mono ?_;rintro e w' ⟨rfl,rfl⟩)
   go_ret
   exact ⟨hbw,.inr ⟨HF.out,rfl⟩⟩
theorem grownStatement_19 (o t y:Int) (x:ByteArray) (k:Int) (P:Nat→Prop) (us:List Value) (ks:List Int) (S:Value) (n:Nat) (HN:Hid (ks.length=n)) (w:World) (hP:∀ g,P g→g < w.heap.size) (hS:Mill.Sl P w S n us) (hk:Mill.Kinded us ks) (hl:n≤1000000) :
  Calls Tryz.prog 104 #[Mill.ndV ⟨19,o,t,y,x,k⟩,S] w fun e w'=>Mill.Grown P w ⟨19,o,t,y,x,k⟩ us ks e w':=by
 have hbw:=(Below.refl w.heap.size w).alloc (Nat.le_refl _) (.cells #[.int .i64 19,.int .i64 o,.int .i64 t,.int .i64 y,.string x,.int .i64 k] 43)
 have hS1:=hS.alloc hP (.cells #[.int .i64 19,.int .i64 o,.int .i64 t,.int .i64 y,.string x,.int .i64 k] 43)
 obtain ⟨a,c,rfl,hc⟩:=hS
 have hul:us.length=n:=by rw [hk.1];exact HN.out
 simp only [Mill.ndV]
 cases hE:ks.all Mill.isE with
 | false =>
  have HE:Hid (ks.all Mill.isE=false):=hE
  have HF:Hid (Mill.fits 19 o ks=false):=Mill.noES o 19 (by omega) hE
  clear hE
  go_enter Tryz.func104,Tryz.ntmps104
  go_wp2_with (go_at_call 105;refine (allValue_is false P us ks HE _ n HN _ hS1 hk hl).mono ?_;rintro e w' ⟨rfl,rfl⟩)
  go_ret
  exact ⟨hbw,.inr ⟨HF.out,rfl⟩⟩
 | true =>
  have HE:Hid (ks.all Mill.isE=true):=hE
  by_cases h1:n=1
  ·subst h1
   have HF:Hid (Mill.fits 19 o ks=true):=by rw [Hid];have:=HN.out;simp [Mill.fits,Mill.oneE_iff,this,hE]
   clear hE
   obtain ⟨tu,yu,rfl⟩:=Mill.us1 hk hul
   obtain ⟨g,rfl,hg,c0⟩:=hc 0 _ rfl
   have hg2:=hP g hg
   clear hc
   go_enter Tryz.func104,Tryz.ntmps104
   go_wp2_with (go_at_call 105;refine (allValue_is true P _ ks HE _ 1 HN _ hS1 hk hl).mono ?_;rintro e w' ⟨rfl,rfl⟩)
   go_ret
   refine ⟨hbw,.inl ⟨HF.out,_,rfl,by simp,by simp,_,rfl,by simp [Mill.Inner]⟩⟩
  ·have HF:Hid (Mill.fits 19 o ks=false):=by rw [Hid];have:=HN.out;simp [Mill.fits,Mill.oneE_iff,this,h1]
   have h1':((n:Int) == 1)=false:=by simpa using (by omega:¬ (n:Int)=1)
   clear hE h1 hul
   go_enter Tryz.func104,Tryz.ntmps104
   go_wp2_with (go_at_call 105;refine (allValue_is true P us ks HE _ n HN _ hS1 hk hl).mono ?_;rintro e w' ⟨rfl,rfl⟩)
   go_ret
   exact ⟨hbw,.inr ⟨HF.out,rfl⟩⟩
theorem grownStatement_16 (o t y:Int) (x:ByteArray) (k:Int) (P:Nat→Prop) (us:List Value) (ks:List Int) (S:Value) (n:Nat) (HN:Hid (ks.length=n)) (w:World) (hP:∀ g,P g→g < w.heap.size) (hS:Mill.Sl P w S n us) (hk:Mill.Kinded us ks) (hl:n≤1000000) :
  Calls Tryz.prog 104 #[Mill.ndV ⟨16,o,t,y,x,k⟩,S] w fun e w'=>Mill.Grown P w ⟨16,o,t,y,x,k⟩ us ks e w':=by
 have hbw:=(Below.refl w.heap.size w).alloc (Nat.le_refl _) (.cells #[.int .i64 16,.int .i64 o,.int .i64 t,.int .i64 y,.string x,.int .i64 k] 43)
 have hS1:=hS.alloc hP (.cells #[.int .i64 16,.int .i64 o,.int .i64 t,.int .i64 y,.string x,.int .i64 k] 43)
 obtain ⟨a,c,rfl,hc⟩:=hS
 have hul:us.length=n:=by rw [hk.1];exact HN.out
 simp only [Mill.ndV]
 cases hE:ks.all Mill.isE with
 | false =>
  have HE:Hid (ks.all Mill.isE=false):=hE
  have HF:Hid (Mill.fits 16 o ks=false):=Mill.noES o 16 (by omega) hE
  clear hE
  go_enter Tryz.func104,Tryz.ntmps104
  go_wp2_with (go_at_call 105;refine (allValue_is false P us ks HE _ n HN _ hS1 hk hl).mono ?_;rintro e w' ⟨rfl,rfl⟩)
  go_ret
  exact ⟨hbw,.inr ⟨HF.out,rfl⟩⟩
 | true =>
  have HE:Hid (ks.all Mill.isE=true):=hE
  by_cases h0:n=0
  ·subst h0
   have HF:Hid (Mill.fits 16 o ks=true):=by rw [Hid];have:=HN.out;simp [Mill.fits,this,hE]
   clear hE
   obtain rfl:=Mill.us0 hul
   clear hc
   go_enter Tryz.func104,Tryz.ntmps104
   go_wp2_with (go_at_call 105;refine (allValue_is true P _ ks HE _ 0 HN _ hS1 hk hl).mono ?_;rintro e w' ⟨rfl,rfl⟩)
   go_ret
   refine ⟨hbw,.inl ⟨HF.out,_,rfl,by simp,by simp,_,rfl,by simp [Mill.Inner]⟩⟩
  ·by_cases h1:n=1
   ·subst h1
    have HF:Hid (Mill.fits 16 o ks=true):=by rw [Hid];have:=HN.out;simp [Mill.fits,this,hE]
    clear hE h0
    obtain ⟨tu,yu,rfl⟩:=Mill.us1 hk hul
    obtain ⟨g,rfl,hg,c0⟩:=hc 0 _ rfl
    have hg2:=hP g hg
    clear hc
    go_enter Tryz.func104,Tryz.ntmps104
    go_wp2_with (go_at_call 105;refine (allValue_is true P _ ks HE _ 1 HN _ hS1 hk hl).mono ?_;rintro e w' ⟨rfl,rfl⟩)
    go_ret
    refine ⟨hbw,.inl ⟨HF.out,_,rfl,by simp,by simp,_,rfl,by simp [Mill.Inner]⟩⟩
   ·have HF:Hid (Mill.fits 16 o ks=false):=by
     rw [Hid];have:=HN.out
     have h2:¬ n≤1:=by omega
     simp [Mill.fits,this,h2]
    have h0':((n:Int) == 0)=false:=by simpa using (by omega:¬ (n:Int)=0)
    have h1':((n:Int) == 1)=false:=by simpa using (by omega:¬ (n:Int)=1)
    clear hE h1 h0 hul
    go_enter Tryz.func104,Tryz.ntmps104
    go_wp2_with (go_at_call 105;refine (allValue_is true P us ks HE _ n HN _ hS1 hk hl).mono ?_;rintro e w' ⟨rfl,rfl⟩)
    go_ret
    exact ⟨hbw,.inr ⟨HF.out,rfl⟩⟩
theorem Mill.ty_ne24 : ∀ a b:Fin 24,a≠b→Mill.ty ((a.val:Int)+1)≠Mill.ty ((b.val:Int)+1):=by decide +kernel
theorem Mill.ty_ne {k j:Int} (h1:1≤k) (h2:k≤24) (h3:1≤j) (h4:j≤24) (h:k≠j):Mill.ty k≠Mill.ty j:=by
 have h5:Mill.ty (((k - 1).toNat:Int)+1)≠Mill.ty (((j - 1).toNat:Int)+1):=Mill.ty_ne24 ⟨(k - 1).toNat,by omega⟩ ⟨(j - 1).toNat,by omega⟩ (by intro he;have:=congrArg Fin.val he;simp at this;omega)
 rwa [show ((k - 1).toNat:Int)+1=k by omega,show ((j - 1).toNat:Int)+1=j by omega] at h5
theorem Mill.us2k {us:List Value} {ks:List Int} (h:Mill.Kinded us ks) (hl:ks.length=2):∃ k0 y0 k1 y1,us=[.iface (Mill.ty k0) y0,.iface (Mill.ty k1) y1]∧ks=[k0,k1]∧(1≤k0∧k0≤24)∧(1≤k1∧k1≤24∧Mill.Form k1 y1):=by
 have hl':us.length=2:=by rw [h.1];exact hl
 match us,hl',ks,hl with
 | [u,v],_,[a,b],_ =>
  obtain ⟨k0,y0,h1,h2,h3,rfl,_⟩:=Mill.us_at h 0 u rfl
  obtain ⟨k1,y1,h4,h5,h6,rfl,h7⟩:=Mill.us_at h 1 v rfl
  cases h3;cases h6
  exact ⟨_,_,_,_,rfl,rfl,⟨h1,h2⟩,h4,h5,h7⟩
theorem Mill.us3k {us:List Value} {ks:List Int} (h:Mill.Kinded us ks) (hl:ks.length=3):∃ k0 y0 k1 y1 k2 y2,us=[.iface (Mill.ty k0) y0,.iface (Mill.ty k1) y1,.iface (Mill.ty k2) y2]∧ks=[k0,k1,k2]∧(1≤k0∧k0≤24)∧(1≤k1∧k1≤24∧Mill.Form k1 y1)∧(1≤k2∧k2≤24):=by
 have hl':us.length=3:=by rw [h.1];exact hl
 match us,hl',ks,hl with
 | [u,v,z],_,[a,b,c],_ =>
  obtain ⟨k0,y0,h1,h2,h3,rfl,_⟩:=Mill.us_at h 0 u rfl
  obtain ⟨k1,y1,h4,h5,h6,rfl,h7⟩:=Mill.us_at h 1 v rfl
  obtain ⟨k2,y2,h8,h9,h10,rfl,_⟩:=Mill.us_at h 2 z rfl
  cases h3;cases h6;cases h10
  exact ⟨_,_,_,_,_,_,rfl,rfl,⟨h1,h2⟩,⟨h4,h5,h7⟩,h8,h9⟩
theorem Mill.us1k {us:List Value} {ks:List Int} (h:Mill.Kinded us ks) (hl:ks.length=1):∃ k0 y0,us=[.iface (Mill.ty k0) y0]∧ks=[k0]∧(1≤k0∧k0≤24∧Mill.Form k0 y0):=by
 have hl':us.length=1:=by rw [h.1];exact hl
 match us,hl',ks,hl with
 | [u],_,[a],_ =>
  obtain ⟨k0,y0,h1,h2,h3,rfl,h4⟩:=Mill.us_at h 0 u rfl
  cases h3
  exact ⟨_,_,rfl,rfl,h1,h2,h4⟩
def Mill.GrownT (w:World) (T:TypeId) (ok:Bool) (X:Value→Prop) (e:Ending) (w':World):Prop :=
 Below w.heap.size w w'∧((ok=true∧∃ x,e = .returned (.iface T x)∧X x)∨(ok=false∧e = .returned .nilIface))
def Mill.IfX (us:List Value) (x:Value):Prop:=(∃ u S,us=[u,Mill.blV S]∧x = .agg #[u,S,.nilIface])∨(∃ u S t y,us=[u,Mill.blV S,.iface t y]∧x = .agg #[u,S,.iface t y])
def Mill.WhileX (us:List Value) (x:Value):Prop := ∃ u S,us=[u,Mill.blV S]∧x = .agg #[u,S]
def Mill.DoX (us:List Value) (x:Value):Prop := ∃ nm S,us=[.iface 168 (.agg #[.string nm,S])]∧x = .agg #[.string nm,S]
theorem grownDo_any (P:Nat→Prop) (us:List Value) (ks:List Int) (S:Value) (n:Nat) (HN:Hid (ks.length=n)) (w:World) (hP:∀ g,P g→g < w.heap.size) (hS:Mill.Sl P w S n us) (hk:Mill.Kinded us ks) :
  Calls Tryz.prog 125 #[S] w fun e w'=>Mill.GrownT w 190 (Mill.doK ks) (Mill.DoX us) e w':=by
 have tc:=Tryz.ta_callNode
 obtain ⟨a,c,rfl,hc⟩:=hS
 by_cases h1:n=1
 ·subst h1
  obtain ⟨k0,y0,rfl,rfl,hk1,hk2,hf⟩:=Mill.us1k hk HN.out
  obtain ⟨g,rfl,hg,c0⟩:=hc 0 _ rfl
  have hg2:=hP g hg
  clear hc
  by_cases h7:k0=7
  ·subst h7
   obtain ⟨nm,sa,sn,sc,rfl⟩:=hf.2.1 rfl
   have ht:Mill.ty 7=168:=rfl
   rw [ht] at c0 ⊢
   go_enter Tryz.func125,Tryz.ntmps125
   go_wp2
   go_ret
   exact ⟨(Below.refl _ w).alloc (Nat.le_refl _) _,.inl ⟨rfl,_,rfl,nm,_,rfl,rfl⟩⟩
  ·have ht:¬ Mill.ty k0=168:=Mill.ty_ne hk1 hk2 (j:=7) (by omega) (by omega) h7
   have HF:Hid (Mill.doK [k0]=false):=by rw [Hid];simp [Mill.doK,h7]
   go_enter Tryz.func125,Tryz.ntmps125
   go_wp2
   go_ret
   exact ⟨(Below.refl _ w).alloc (Nat.le_refl _) _,.inr ⟨HF.out,rfl⟩⟩
 ·have HF:Hid (Mill.doK ks=false):=by
   have hlen:=HN.out
   match ks,hlen with
   | [],_=>rw [Hid];rfl
   | [a],hlen=>simp at hlen;omega
   | a::b::r,_=>rw [Hid];rfl
  have h1':((n:Int) != 1)=true:=by simpa using (by omega:¬ (n:Int)=1)
  clear hc h1
  go_enter Tryz.func125,Tryz.ntmps125
  go_wp2
  go_ret
  exact ⟨Below.refl _ _,.inr ⟨HF.out,rfl⟩⟩
theorem grownWhile_any (P:Nat→Prop) (us:List Value) (ks:List Int) (S:Value) (n:Nat) (HN:Hid (ks.length=n)) (w:World) (hP:∀ g,P g→g < w.heap.size) (hS:Mill.Sl P w S n us) (hk:Mill.Kinded us ks) :
  Calls Tryz.prog 124 #[S] w fun e w'=>Mill.GrownT w 154 (Mill.whileK ks) (Mill.WhileX us) e w':=by
 have tc:=Tryz.ta_blockNode
 obtain ⟨a,c,rfl,hc⟩:=hS
 by_cases h1:n=2
 ·subst h1
  obtain ⟨k0,y0,k1,y1,rfl,rfl,⟨hk1,hk2⟩,hk3,hk4,hf⟩:=Mill.us2k hk HN.out
  obtain ⟨g,rfl,hg,c0⟩:=hc 0 _ rfl
  obtain ⟨g',hg',_,c1⟩:=hc 1 _ rfl
  cases hg'
  have hg2:=hP g hg
  clear hc
  obtain ⟨b,HB⟩:∃ b,Hid (Mill.isE k0=b):=⟨_,(rfl:Mill.isE k0=_)⟩
  cases b with
  | false =>
   have HF:Hid (Mill.whileK [k0,k1]=false):=by rw [Hid];simp [Mill.whileK,HB.out]
   go_enter Tryz.func124,Tryz.ntmps124
   go_wp2_with (go_at_call 122;refine (isValue_is k0 hk1 hk2 y0 false HB _).mono ?_;rintro e w' ⟨rfl,rfl⟩)
   go_ret
   exact ⟨Below.refl _ _,.inr ⟨HF.out,rfl⟩⟩
  | true =>
   by_cases h7:k1=21
   ·subst h7
    obtain ⟨sa,sn,sc,rfl⟩:=hf.1 rfl
    have ht:Mill.ty 21=77:=rfl
    have HF:Hid (Mill.whileK [k0,21]=true):=by rw [Hid];simp [Mill.whileK,HB.out]
    rw [ht] at c1 ⊢
    go_enter Tryz.func124,Tryz.ntmps124
    go_wp2_with (go_at_call 122;refine (isValue_is k0 hk1 hk2 y0 true HB _).mono ?_;rintro e w' ⟨rfl,rfl⟩)
    go_quiet (fail)
    go_wp2
    go_ret
    exact ⟨Mill.below_drewN _ ((Below.refl _ w).alloc (Nat.le_refl _) _),.inl ⟨HF.out,_,rfl,_,_,rfl,rfl⟩⟩
   ·have ht:¬ Mill.ty k1=77:=Mill.ty_ne hk3 hk4 (j:=21) (by omega) (by omega) h7
    have HF:Hid (Mill.whileK [k0,k1]=false):=by rw [Hid];simp [Mill.whileK,h7]
    go_enter Tryz.func124,Tryz.ntmps124
    go_wp2_with (go_at_call 122;refine (isValue_is k0 hk1 hk2 y0 true HB _).mono ?_;rintro e w' ⟨rfl,rfl⟩)
    go_ret
    exact ⟨(Below.refl _ w).alloc (Nat.le_refl _) _,.inr ⟨HF.out,rfl⟩⟩
 ·have HF:Hid (Mill.whileK ks=false):=Mill.whileK_no ks (by rw [HN.out];exact h1)
  have h1':((n:Int) != 2)=true:=by simpa using (by omega:¬ (n:Int)=2)
  clear hc h1
  go_enter Tryz.func124,Tryz.ntmps124
  go_wp2_with fail
  go_ret
  exact ⟨Below.refl _ _,.inr ⟨HF.out,rfl⟩⟩
theorem grownIf_any (P:Nat→Prop) (us:List Value) (ks:List Int) (S:Value) (n:Nat) (HN:Hid (ks.length=n)) (w:World) (hP:∀ g,P g→g < w.heap.size) (hS:Mill.Sl P w S n us) (hk:Mill.Kinded us ks) :
  Calls Tryz.prog 123 #[S] w fun e w'=>Mill.GrownT w 151 (Mill.ifK ks) (Mill.IfX us) e w':=by
 have tc:=Tryz.ta_blockNode
 have ti:=Tryz.ta_ifNode
 obtain ⟨a,c,rfl,hc⟩:=hS
 by_cases h1:n=2
 ·subst h1
  obtain ⟨k0,y0,k1,y1,rfl,rfl,⟨hk1,hk2⟩,hk3,hk4,hf⟩:=Mill.us2k hk HN.out
  obtain ⟨g,rfl,hg,c0⟩:=hc 0 _ rfl
  obtain ⟨g',hg',_,c1⟩:=hc 1 _ rfl
  cases hg'
  have hg2:=hP g hg
  clear hc ti
  obtain ⟨b,HB⟩:∃ b,Hid (Mill.isE k0=b):=⟨_,(rfl:Mill.isE k0=_)⟩
  cases b with
  | false =>
   have HF:Hid (Mill.ifK [k0,k1]=false):=by rw [Hid];simp [Mill.ifK,HB.out]
   go_enter Tryz.func123,Tryz.ntmps123
   go_wp2_with (go_at_call 122;refine (isValue_is k0 hk1 hk2 y0 false HB _).mono ?_;rintro e w' ⟨rfl,rfl⟩)
   go_ret
   exact ⟨Below.refl _ _,.inr ⟨HF.out,rfl⟩⟩
  | true =>
   by_cases h7:k1=21
   ·subst h7
    obtain ⟨sa,sn,sc,rfl⟩:=hf.1 rfl
    have ht:Mill.ty 21=77:=rfl
    have HF:Hid (Mill.ifK [k0,21]=true):=by rw [Hid];simp [Mill.ifK,HB.out]
    rw [ht] at c1 ⊢
    go_enter Tryz.func123,Tryz.ntmps123
    go_wp2_with (go_at_call 122;refine (isValue_is k0 hk1 hk2 y0 true HB _).mono ?_;rintro e w' ⟨rfl,rfl⟩)
    go_quiet (fail)
    go_wp2
    go_ret
    exact ⟨Mill.below_drewN _ ((Below.refl _ w).alloc (Nat.le_refl _) _),.inl ⟨HF.out,_,rfl,.inl ⟨_,_,rfl,rfl⟩⟩⟩
   ·have ht:¬ Mill.ty k1=77:=Mill.ty_ne hk3 hk4 (j:=21) (by omega) (by omega) h7
    have HF:Hid (Mill.ifK [k0,k1]=false):=by rw [Hid];simp [Mill.ifK,h7]
    go_enter Tryz.func123,Tryz.ntmps123
    go_wp2_with (go_at_call 122;refine (isValue_is k0 hk1 hk2 y0 true HB _).mono ?_;rintro e w' ⟨rfl,rfl⟩)
    go_ret
    exact ⟨(Below.refl _ w).alloc (Nat.le_refl _) _,.inr ⟨HF.out,rfl⟩⟩
 ·by_cases h2:n=3
  ·subst h2
   obtain ⟨k0,y0,k1,y1,k2,y2,rfl,rfl,⟨hk1,hk2⟩,⟨hk3,hk4,hf⟩,hk5,hk6⟩:=Mill.us3k hk HN.out
   obtain ⟨g,rfl,hg,c0⟩:=hc 0 _ rfl
   obtain ⟨g',hg',_,c1⟩:=hc 1 _ rfl
   cases hg'
   obtain ⟨g',hg',_,c2⟩:=hc 2 _ rfl
   cases hg'
   have hg2:=hP g hg
   clear hc h1
   obtain ⟨b,HB⟩:∃ b,Hid (Mill.isE k0=b):=⟨_,(rfl:Mill.isE k0=_)⟩
   cases b with
   | false =>
    have HF:Hid (Mill.ifK [k0,k1,k2]=false):=by rw [Hid];simp [Mill.ifK,HB.out]
    go_enter Tryz.func123,Tryz.ntmps123
    go_wp2_with (go_at_call 122;refine (isValue_is k0 hk1 hk2 y0 false HB _).mono ?_;rintro e w' ⟨rfl,rfl⟩)
    go_ret
    exact ⟨Below.refl _ _,.inr ⟨HF.out,rfl⟩⟩
   | true =>
    by_cases h7:k1=21
    ·subst h7
     obtain ⟨sa,sn,sc,rfl⟩:=hf.1 rfl
     have ht:Mill.ty 21=77:=rfl
     rw [ht] at c1 ⊢
     by_cases h8:k2=21
     ·subst h8
      have HF:Hid (Mill.ifK [k0,21,21]=true):=by rw [Hid];simp [Mill.ifK,HB.out]
      rw [ht] at c2 ⊢
      go_enter Tryz.func123,Tryz.ntmps123
      go_wp2_with (go_at_call 122;refine (isValue_is k0 hk1 hk2 y0 true HB _).mono ?_;rintro e w' ⟨rfl,rfl⟩)
      go_quiet (fail)
      go_wp2
      go_ret
      exact ⟨Mill.below_drewN _ ((Below.refl _ w).alloc (Nat.le_refl _) _),.inl ⟨HF.out,_,rfl,.inr ⟨_,_,_,_,rfl,rfl⟩⟩⟩
     ·have ht2:¬ Mill.ty k2=77:=Mill.ty_ne hk5 hk6 (j:=21) (by omega) (by omega) h8
      by_cases h9:k2=12
      ·subst h9
       have HF:Hid (Mill.ifK [k0,21,12]=true):=by rw [Hid];simp [Mill.ifK,HB.out]
       have hti:Mill.ty 12=151:=rfl
       rw [hti] at c2 ⊢
       clear ht2
       go_enter Tryz.func123,Tryz.ntmps123
       go_wp2_with (go_at_call 122;refine (isValue_is k0 hk1 hk2 y0 true HB _).mono ?_;rintro e w' ⟨rfl,rfl⟩)
       go_quiet (fail)
       go_wp2
       go_ret
       exact ⟨Mill.below_drewN _ ((Below.refl _ w).alloc (Nat.le_refl _) _),.inl ⟨HF.out,_,rfl,.inr ⟨_,_,_,_,rfl,rfl⟩⟩⟩
      ·have hti:¬ Mill.ty k2=151:=Mill.ty_ne hk5 hk6 (j:=12) (by omega) (by omega) h9
       have HF:Hid (Mill.ifK [k0,21,k2]=false):=by rw [Hid];simp [Mill.ifK,h8,h9]
       go_enter Tryz.func123,Tryz.ntmps123
       go_wp2_with (go_at_call 122;refine (isValue_is k0 hk1 hk2 y0 true HB _).mono ?_;rintro e w' ⟨rfl,rfl⟩)
       go_ret
       exact ⟨(Below.refl _ w).alloc (Nat.le_refl _) _,.inr ⟨HF.out,rfl⟩⟩
    ·have ht:¬ Mill.ty k1=77:=Mill.ty_ne hk3 hk4 (j:=21) (by omega) (by omega) h7
     have HF:Hid (Mill.ifK [k0,k1,k2]=false):=by rw [Hid];simp [Mill.ifK,h7]
     go_enter Tryz.func123,Tryz.ntmps123
     go_wp2_with (go_at_call 122;refine (isValue_is k0 hk1 hk2 y0 true HB _).mono ?_;rintro e w' ⟨rfl,rfl⟩)
     go_ret
     exact ⟨(Below.refl _ w).alloc (Nat.le_refl _) _,.inr ⟨HF.out,rfl⟩⟩
  ·have HF:Hid (Mill.ifK ks=false):=Mill.ifK_no ks (by rw [HN.out];exact h1) (by rw [HN.out];exact h2)
   clear hc
   by_cases h3:n < 2
   ·have h3':(n:Int) < 2:=by omega
    clear h1 h2 h3
    go_enter Tryz.func123,Tryz.ntmps123
    go_wp2_with fail
    go_ret
    exact ⟨Below.refl _ _,.inr ⟨HF.out,rfl⟩⟩
   ·have h3':¬ (n:Int) < 2:=by omega
    have h4':(3:Int) < (n:Int):=by omega
    clear h1 h2 h3
    go_enter Tryz.func123,Tryz.ntmps123
    go_wp2_with fail
    go_ret
    exact ⟨Below.refl _ _,.inr ⟨HF.out,rfl⟩⟩
theorem grownStatement_12 (o t y:Int) (x:ByteArray) (k:Int) (P:Nat→Prop) (us:List Value) (ks:List Int) (S:Value) (n:Nat) (HN:Hid (ks.length=n)) (w:World) (hP:∀ g,P g→g < w.heap.size) (hS:Mill.Sl P w S n us) (hk:Mill.Kinded us ks) :
  Calls Tryz.prog 104 #[Mill.ndV ⟨12,o,t,y,x,k⟩,S] w fun e w'=>Mill.Grown P w ⟨12,o,t,y,x,k⟩ us ks e w':=by
 have hbw:=(Below.refl w.heap.size w).alloc (Nat.le_refl _) (.cells #[.int .i64 12,.int .i64 o,.int .i64 t,.int .i64 y,.string x,.int .i64 k] 43)
 have hS1:=hS.alloc hP (.cells #[.int .i64 12,.int .i64 o,.int .i64 t,.int .i64 y,.string x,.int .i64 k] 43)
 have HK:Hid (Mill.fits 12 o ks=Mill.ifK ks):=by rw [Hid];simp [Mill.fits]
 obtain ⟨a,c,rfl,hc⟩:=hS
 clear hc
 simp only [Mill.ndV]
 cases hK:Mill.ifK ks with
 | true =>
  rw [hK] at HK
  go_enter Tryz.func104,Tryz.ntmps104
  go_wp2_with (go_at_call 123;refine (grownIf_any P us ks _ n HN _ (fun g h=>by have:=hP g h;rw [World.size_alloc];omega) hS1 hk).mono ?_;rintro e w' ⟨hb2,hg⟩;rw [hK] at hg;obtain ⟨_,x',rfl,hx⟩:=hg.resolve_right (by simp);rw [World.size_alloc] at hb2)
  go_ret
  refine ⟨hbw.trans (hb2.mono (by omega)),.inl ⟨HK.out,_,rfl,by simp,by simp,x',rfl, ?_⟩⟩
  unfold Mill.Inner
  simp (decide:=true) only [if_false,if_true]
  exact hx
 | false =>
  rw [hK] at HK
  go_enter Tryz.func104,Tryz.ntmps104
  go_wp2_with (go_at_call 123;refine (grownIf_any P us ks _ n HN _ (fun g h=>by have:=hP g h;rw [World.size_alloc];omega) hS1 hk).mono ?_;rintro e w' ⟨hb2,hg⟩;rw [hK] at hg;obtain ⟨_,rfl⟩:=hg.resolve_left (by simp);rw [World.size_alloc] at hb2)
  go_ret
  exact ⟨hbw.trans (hb2.mono (by omega)),.inr ⟨HK.out,rfl⟩⟩
theorem grownStatement_13 (o t y:Int) (x:ByteArray) (k:Int) (P:Nat→Prop) (us:List Value) (ks:List Int) (S:Value) (n:Nat) (HN:Hid (ks.length=n)) (w:World) (hP:∀ g,P g→g < w.heap.size) (hS:Mill.Sl P w S n us) (hk:Mill.Kinded us ks) :
  Calls Tryz.prog 104 #[Mill.ndV ⟨13,o,t,y,x,k⟩,S] w fun e w'=>Mill.Grown P w ⟨13,o,t,y,x,k⟩ us ks e w':=by
 have hbw:=(Below.refl w.heap.size w).alloc (Nat.le_refl _) (.cells #[.int .i64 13,.int .i64 o,.int .i64 t,.int .i64 y,.string x,.int .i64 k] 43)
 have hS1:=hS.alloc hP (.cells #[.int .i64 13,.int .i64 o,.int .i64 t,.int .i64 y,.string x,.int .i64 k] 43)
 have HK:Hid (Mill.fits 13 o ks=Mill.whileK ks):=by rw [Hid];simp [Mill.fits]
 obtain ⟨a,c,rfl,hc⟩:=hS
 clear hc
 simp only [Mill.ndV]
 cases hK:Mill.whileK ks with
 | true =>
  rw [hK] at HK
  go_enter Tryz.func104,Tryz.ntmps104
  go_wp2_with (go_at_call 124;refine (grownWhile_any P us ks _ n HN _ (fun g h=>by have:=hP g h;rw [World.size_alloc];omega) hS1 hk).mono ?_;rintro e w' ⟨hb2,hg⟩;rw [hK] at hg;obtain ⟨_,x',rfl,hx⟩:=hg.resolve_right (by simp);rw [World.size_alloc] at hb2)
  go_ret
  refine ⟨hbw.trans (hb2.mono (by omega)),.inl ⟨HK.out,_,rfl,by simp,by simp,x',rfl, ?_⟩⟩
  unfold Mill.Inner
  simp (decide:=true) only [if_false,if_true]
  exact hx
 | false =>
  rw [hK] at HK
  go_enter Tryz.func104,Tryz.ntmps104
  go_wp2_with (go_at_call 124;refine (grownWhile_any P us ks _ n HN _ (fun g h=>by have:=hP g h;rw [World.size_alloc];omega) hS1 hk).mono ?_;rintro e w' ⟨hb2,hg⟩;rw [hK] at hg;obtain ⟨_,rfl⟩:=hg.resolve_left (by simp);rw [World.size_alloc] at hb2)
  go_ret
  exact ⟨hbw.trans (hb2.mono (by omega)),.inr ⟨HK.out,rfl⟩⟩
theorem grownStatement_20 (o t y:Int) (x:ByteArray) (k:Int) (P:Nat→Prop) (us:List Value) (ks:List Int) (S:Value) (n:Nat) (HN:Hid (ks.length=n)) (w:World) (hP:∀ g,P g→g < w.heap.size) (hS:Mill.Sl P w S n us) (hk:Mill.Kinded us ks) :
  Calls Tryz.prog 104 #[Mill.ndV ⟨20,o,t,y,x,k⟩,S] w fun e w'=>Mill.Grown P w ⟨20,o,t,y,x,k⟩ us ks e w':=by
 have hbw:=(Below.refl w.heap.size w).alloc (Nat.le_refl _) (.cells #[.int .i64 20,.int .i64 o,.int .i64 t,.int .i64 y,.string x,.int .i64 k] 43)
 have hS1:=hS.alloc hP (.cells #[.int .i64 20,.int .i64 o,.int .i64 t,.int .i64 y,.string x,.int .i64 k] 43)
 have HK:Hid (Mill.fits 20 o ks=Mill.doK ks):=by rw [Hid];simp [Mill.fits]
 obtain ⟨a,c,rfl,hc⟩:=hS
 clear hc
 simp only [Mill.ndV]
 cases hK:Mill.doK ks with
 | true =>
  rw [hK] at HK
  go_enter Tryz.func104,Tryz.ntmps104
  go_wp2_with (go_at_call 125;refine (grownDo_any P us ks _ n HN _ (fun g h=>by have:=hP g h;rw [World.size_alloc];omega) hS1 hk).mono ?_;rintro e w' ⟨hb2,hg⟩;rw [hK] at hg;obtain ⟨_,x',rfl,hx⟩:=hg.resolve_right (by simp);rw [World.size_alloc] at hb2)
  go_ret
  refine ⟨hbw.trans (hb2.mono (by omega)),.inl ⟨HK.out,_,rfl,by simp,by simp,x',rfl, ?_⟩⟩
  unfold Mill.Inner
  simp (decide:=true) only [if_false,if_true]
  exact hx
 | false =>
  rw [hK] at HK
  go_enter Tryz.func104,Tryz.ntmps104
  go_wp2_with (go_at_call 125;refine (grownDo_any P us ks _ n HN _ (fun g h=>by have:=hP g h;rw [World.size_alloc];omega) hS1 hk).mono ?_;rintro e w' ⟨hb2,hg⟩;rw [hK] at hg;obtain ⟨_,rfl⟩:=hg.resolve_left (by simp);rw [World.size_alloc] at hb2)
  go_ret
  exact ⟨hbw.trans (hb2.mono (by omega)),.inr ⟨HK.out,rfl⟩⟩
theorem Tryz.infoParam : (Tryz.prog.info? 135).map (fun i=>(i.zero,i.size,i.bytes))=some (some (.agg #[.string ByteArray.empty,.int .i64 0]),2,24):=by kernel_rfl
theorem Tryz.infoFn : (Tryz.prog.info? 79).map (fun i=>(i.zero,i.size,i.bytes))=some (some (.agg #[.string ByteArray.empty,.int .i64 0,.slice none 0 0,.slice none 0 0]),4,72):=by kernel_rfl
theorem Mill.cell2_new (w:World) (o:Obj) (a b:Value) (t:TypeId) (j:Nat) (u:Value) (h:[a,b][j]? = some u):((w.alloc o).alloc (.cells #[a,b] t)).cell? ((⟨w.heap.size+1,0,none⟩:Addr).add j)=some u:=by
 have hadd:(⟨w.heap.size+1,0,none⟩:Addr).add j=⟨(w.alloc o).heap.size,j,none⟩:=by unfold Addr.add;split <;> simp_all
 rw [hadd,cell_of_row _ _ _ #[a,b] t (0,0) (heap_alloc_new (w.alloc o) _)]
 simpa using h
theorem Mill.two_one (nm:ByteArray) (pt:Int):∀ u ∈ [Value.string nm,.int .i64 pt],u.oneCell'=true:=by
 intro u hu
 simp at hu
 rcases hu with rfl | rfl <;> rfl
def Mill.prC (ps:List (ByteArray × Int)):List Value:=ps.flatMap (fun p=>[.string p.1,.int .i64 p.2])
theorem Mill.prC_snoc (ps:List (ByteArray × Int)) (p:ByteArray × Int):Mill.prC (ps++[p])=Mill.prC ps++[.string p.1,.int .i64 p.2]:=by simp [Mill.prC]
theorem Mill.sl_own {w:World} {B e size n:Nat} {v:Value} {xs:List Value} (h:w.ownsRow B e size v n xs):Mill.Sl (fun g=>B≤g∧g < w.heap.size) w v n xs:=by
 rcases h.2 with ⟨rfl,h0⟩ | ⟨g,cap,cur,rfl,hg,hgg,_⟩
 ·refine ⟨none,0,by rw [h0],fun j u hj => ?_⟩
  have h1:=h.1
  rw [h0] at h1
  have:=(List.getElem?_eq_some_iff.1 hj).1
  omega
 ·refine ⟨_,_,rfl,fun j u hj=>⟨g,rfl,⟨hg,(Array.getElem?_eq_some_iff.1 hgg).1⟩, ?_⟩⟩
  have hj2:=(List.getElem?_eq_some_iff.1 hj).1
  rw [h.1] at hj2
  rw [h.cellAt j hj2];exact hj
theorem Mill.fnK_no (ks:List Int) (h:ks.length=0∨9 < ks.length):Mill.fnK ks=false:=by
 rcases h with h | h
 ·rw [List.eq_nil_of_length_eq_zero h];rfl
 ·unfold Mill.fnK
  have h9:¬ ks.length≤9:=by omega
  split
  ·rfl
  ·simp [h9]
theorem Mill.fnK_eq (ks:List Int) (m:Nat) (z:Int) (hm:ks.length=m+1) (hz:ks[m]? = some z) (h9:m≤8):Mill.fnK ks=((z == 21) && (ks.take m).all (fun k=>k == 22)):=by
 have hne:ks≠[]:=by intro h0;subst h0;simp at hm
 have hl:ks.getLast? = some z:=by
  rw [List.getLast?_eq_getElem?,hm];exact hz
 unfold Mill.fnK
 rw [hl]
 simp [List.dropLast_eq_take,hm,h9]
def Mill.FnX (P:Nat→Prop) (w:World) (x:ByteArray) (t:Int) (us:List Value) (X:Value):Prop := ∃ (ps:List (ByteArray × Int)) (SP SB:Value),us=ps.map Mill.prV++[Mill.blV SB]∧Mill.Sl P w SP ps.length (Mill.prC ps)∧X = .agg #[.string x,.int .i64 t,SP,SB]∧(∃ a n c,SP = .slice a n c)∧∃ a n c,SB = .slice a n c
theorem grownFn_any (c0 o t y:Int) (x:ByteArray) (k:Int) (P:Nat→Prop) (us:List Value) (ks:List Int) (S:Value) (n:Nat) (HN:Hid (ks.length=n)) (w:World) (hP:∀ g,P g→g < w.heap.size) (hS:Mill.Sl P w S n us) (hcap:∀ a c,S = .slice a n c→n≤c) (hk:Mill.Kinded us ks) (hl:n≤1000000) :
  Calls Tryz.prog 107 #[Mill.ndV ⟨c0,o,t,y,x,k⟩,S] w fun e w'=>Mill.GrownT w 79 (Mill.fnK ks) (Mill.FnX (fun g=>w.heap.size≤g∧g < w'.heap.size) w' x t us) e w':=by
 obtain ⟨i0,hi0,hz0,hz1,hz2⟩:=info_parts Tryz.infoParam
 have tb:=Tryz.ta_blockNode
 have tp:=Tryz.ta_paramNode
 obtain ⟨a,c,rfl,hc⟩:=hS
 have hnc:=hcap a c rfl
 clear hcap
 simp only [Mill.ndV]
 by_cases h1:n=0
 ·have HF:Hid (Mill.fnK ks=false):=Mill.fnK_no ks (.inl (by rw [HN.out];exact h1))
  subst h1
  clear hc
  go_enter Tryz.func107,Tryz.ntmps107
  go_wp2
  go_ret
  exact ⟨(Below.refl _ w).alloc (Nat.le_refl _) _,.inr ⟨HF.out,rfl⟩⟩
 ·by_cases h9:9 < n
  ·have HF:Hid (Mill.fnK ks=false):=Mill.fnK_no ks (.inr (by rw [HN.out];exact h9))
   obtain ⟨m,rfl⟩:∃ m,n=m+1:=⟨n - 1,by omega⟩
   have h9':(8:Int) < (m:Int):=by omega
   clear hc
   go_enter Tryz.func107,Tryz.ntmps107
   go_wp2
   go_ret
   exact ⟨(Below.refl _ w).alloc (Nat.le_refl _) _,.inr ⟨HF.out,rfl⟩⟩
  ·obtain ⟨m,rfl⟩:∃ m,n=m+1:=⟨n - 1,by omega⟩
   have hul:us.length=m+1:=by rw [hk.1];exact HN.out
   obtain ⟨u,hu⟩:∃ u,us[m]? = some u:=⟨_,List.getElem?_eq_getElem (by omega)⟩
   obtain ⟨kl,yl,hl1,hl2,hl3,rfl,hlf⟩:=Mill.us_at hk m u hu
   obtain ⟨g,rfl,hg,cl⟩:=hc m _ hu
   have hg2:=hP g hg
   have HFN:Hid (Mill.fnK ks=((kl == 21) && (ks.take m).all (fun k=>k == 22))):=Mill.fnK_eq ks m kl HN.out hl3 (by omega)
   by_cases h21:kl=21
   ·subst h21
    obtain ⟨sa,sn,sc,rfl⟩:=hlf.1 rfl
    have ht:Mill.ty 21=77:=rfl
    rw [ht] at cl hu
    have hm8:m≤8:=by omega
    have hmc:m≤c:=by omega
    clear h1 h9 hl1 hl2 hlf ht
    go_enter Tryz.func107,Tryz.ntmps107
    go_wp2
    generalize hW2:(w.alloc (.cells #[.int .i64 c0,.int .i64 o,.int .i64 t,.int .i64 y,.string x,.int .i64 k] 43)).alloc (.cells #[.slice sa sn sc] 77)=W2
    have hs2:W2.heap.size=w.heap.size+1+1:=by rw [← hW2];simp
    have hbW:Below w.heap.size w W2:=by rw [← hW2];exact ((Below.refl _ w).alloc (Nat.le_refl _) _).alloc (by simp) _
    have hcell:∀ {W:World},Below (w.heap.size+2) W2 W→∀ j u,us[j]? = some u→W.cell? ⟨g,j,none⟩=some u:=by
     intro W hW j u hj
     obtain ⟨g',hg',_,hq⟩:=hc j u hj
     cases hg'
     rw [hW.cell (p:=⟨g,j,none⟩) (by simp;omega),hbW.cell (p:=⟨g,j,none⟩) hg2];exact hq
    clear hc cl
    go_loopw [42] (fun tv wr => ∃ (i:Nat) (ps:List (ByteArray × Int)) (av:Option Addr) (cv:Nat),i≤m∧tv = .int .i64 (i:Int)∧ps.length=i∧us.take i=ps.map Mill.prV∧(ks.take i).all (fun k=>k == 22)=true∧wr.ownsRow (w.heap.size+3) 135 2 (.slice av i cv) i (Mill.prC ps)∧Below (w.heap.size+2) W2 wr∧w.heap.size+3≤wr.heap.size∧wr.cell? ⟨w.heap.size+1+1,0,none⟩=some (.string x)∧wr.cell? ⟨w.heap.size+1+1,1,none⟩=some (.int .i64 t)∧wr.cell? ⟨w.heap.size+1+1,2,none⟩=some (.slice av i cv)∧wr.cell? ⟨w.heap.size+1+1,3,none⟩=some (.slice sa sn sc)∧∀ j,wr.frozen? ⟨w.heap.size+1+1,j,none⟩=false) (fun tv _=>m - (intOf tv).toNat)
    case atStart =>
     refine ⟨0,[],none,0,by omega,rfl,rfl,by simp,by simp,⟨by simp [Mill.prC],.inl ⟨rfl,rfl⟩⟩,(Below.refl _ W2).alloc (by omega) _,by simp [hs2], ?_, ?_, ?_, ?_, ?_⟩
     all_goals rw [← hs2];simp [go_sem]
    case round =>
     obtain ⟨i,ps,av,cv,hi,rfl,hpl,hpt,hka,hown,hbw,hsz,q0,q1,q2,q3,qf⟩:=hrel
     by_cases hlt:i < m
     ·obtain ⟨u,hui⟩:∃ u,us[i]? = some u:=⟨_,List.getElem?_eq_getElem (by omega)⟩
      obtain ⟨kp,yp,hp1,hp2,hp3,rfl,hpf⟩:=Mill.us_at hk i u hui
      have ci:=hcell hbw i _ hui
      by_cases h22:kp=22
      ·subst h22
       obtain ⟨nm,pt,rfl⟩:=hpf.2.2.1 rfl
       have htp:Mill.ty 22=135:=rfl
       rw [htp] at ci hui
       have HPT:Hid (us.take (i+1)=(ps++[(nm,pt)]).map Mill.prV):=by
        have hil:i < us.length:=by omega
        have h6:us[i]=Mill.prV (nm,pt):=by
         rw [List.getElem?_eq_getElem hil] at hui;exact Option.some.inj hui
        rw [Hid,← List.take_append_getElem hil,h6,hpt,List.map_append];rfl
       have HKA:Hid ((ks.take (i+1)).all (fun k=>k == 22)=true):=by
        have hil:i < ks.length:=by rw [HN.out];omega
        have h6:ks[i]=22:=by rw [List.getElem?_eq_getElem hil] at hp3;exact Option.some.inj hp3
        rw [Hid,← List.take_append_getElem hil,h6,List.all_append,hka];rfl
       clear hpt hka hp1 hp2 hp3 hpf htp
       have hsl:w.heap.size+1+1 < wr.heap.size:=by omega
       go_wp2_with (first | (at_builtin;(refine wpList_append_own _ rfl _ _ 75 rfl (w.heap.size+3) 135 i0 (.agg #[.string ByteArray.empty,.int .i64 0]) 2 24 Tryz.underlying75 hi0 hz0 hz1 hz2 rfl (by decide) _ _ _ rfl ((hown.alloc _).alloc _) ⟨wr.heap.size+1,0,none⟩ 1 1 [.string nm,.int .i64 pt] rfl rfl (Mill.cell2_new _ _ _ _ _) (Mill.two_one nm pt) (by unfold maxLen;omega) (by omega) (by simp only [World.size_alloc];omega) ?_;intro v' w3 hown' hgrow3 _;obtain ⟨a',c',hv'⟩:=Mill.rowLen hown';subst hv';have hb3:Below (w.heap.size+3) wr w3:=Below.grown (((Below.refl _ wr).alloc hsz _).alloc (by simp only [World.size_alloc];omega) _) hgrow3 (by simp only [World.size_alloc];omega) (fun j hj=>(hown.lt _ hj).1);have d2:w3.cell? ⟨w.heap.size+1+1,2,none⟩=some (.slice av i cv):=(by rw [hb3.cell (p:=⟨w.heap.size+1+1,2,none⟩) (Nat.lt_succ_self _)];exact q2);have df:w3.frozen? ⟨w.heap.size+1+1,2,none⟩=false:=(by rw [hb3.frozen (p:=⟨w.heap.size+1+1,2,none⟩) (Nat.lt_succ_self _)];exact qf 2))))
       have hs3:=hb3.size
       go_roundw
       case rel =>
        refine ⟨i+1,ps++[(nm,pt)],a',c',by omega,by go_num,by simp [hpl],HPT.out,HKA.out, ?_, ?_,by simp;omega, ?_, ?_, ?_, ?_, ?_⟩
        ·rw [Mill.prC_snoc];exact ownsRow_setCell_below hown' (a:=⟨w.heap.size+1+1,2,none⟩) (by simp) _
        ·exact (hbw.trans (hb3.mono (by omega))).setCell (p:=⟨w.heap.size+1+1,2,none⟩) (Nat.le_refl _) _
        ·rw [World.cell?_setCell_other _ _ _ _ (by simp),hb3.cell (p:=⟨w.heap.size+1+1,0,none⟩) (by simp)];exact q0
        ·rw [World.cell?_setCell_other _ _ _ _ (by simp),hb3.cell (p:=⟨w.heap.size+1+1,1,none⟩) (by simp)];exact q1
        ·exact World.cell?_setCell_same _ _ _ d2
        ·rw [World.cell?_setCell_other _ _ _ _ (by simp),hb3.cell (p:=⟨w.heap.size+1+1,3,none⟩) (by simp)];exact q3
        ·intro j;simp only [World.frozen?_setCell];rw [hb3.frozen (p:=⟨w.heap.size+1+1,j,none⟩) (by simp)];exact qf j
       case measure=>simp [intOf];omega
      ·have htp:¬ Mill.ty kp=135:=Mill.ty_ne hp1 hp2 (j:=22) (by omega) (by omega) h22
       have HF:Hid (Mill.fnK ks=false):=by
        rw [Hid,HFN.out]
        have hmem:kp ∈ ks.take m:=List.mem_of_getElem? (i:=i) (by rw [List.getElem?_take,if_pos hlt];exact hp3)
        have:(ks.take m).all (fun k=>k == 22)=false:=by
         rw [Bool.eq_false_iff];intro hall
         have:=List.all_eq_true.1 hall kp hmem
         simp at this;exact h22 this
        rw [this];rfl
       go_wp2
       go_ret
       exact ⟨hbW.trans ((hbw.mono (by omega)).alloc (by omega) _),.inr ⟨HF.out,rfl⟩⟩
     ·have hie:i=m:=by omega
      subst hie
      have HF:Hid (Mill.fnK ks=true):=by rw [Hid,HFN.out,hka];rfl
      have hbe:Below w.heap.size w wr:=hbW.trans (hbw.mono (by omega))
      go_wp2
      go_ret
      refine ⟨hbe,.inl ⟨HF.out,_,rfl,ps,_,_, ?_, ?_,rfl,⟨_,_,_,rfl⟩,_,_,_,rfl⟩⟩
      ·have hsp:us=us.take i++[Mill.blV (.slice sa sn sc)]:=by
        have hil:i < us.length:=by omega
        have h5:us.take (i+1)=us:=List.take_of_length_le (by omega)
        have h6:us[i]=Mill.blV (.slice sa sn sc):=by
         rw [List.getElem?_eq_getElem hil] at hu;exact Option.some.inj hu
        rw [← h6,List.take_append_getElem];exact h5.symm
       rw [← hpt];exact hsp
      ·rw [hpl]
       exact (Mill.sl_own hown).below (fun g h=>⟨by omega,h.2⟩) (fun g h=>rfl)
   ·have htb:¬ Mill.ty kl=77:=Mill.ty_ne hl1 hl2 (j:=21) (by omega) (by omega) h21
    have HF:Hid (Mill.fnK ks=false):=by rw [Hid,HFN.out];simp [h21]
    have hm8:m≤8:=by omega
    clear hc
    go_enter Tryz.func107,Tryz.ntmps107
    go_wp2
    go_ret
    exact ⟨((Below.refl _ w).alloc (Nat.le_refl _) _).alloc (by simp) _,.inr ⟨HF.out,rfl⟩⟩
theorem Mill.cell4_new (w:World) (o:Obj) (a b c d:Value) (t:TypeId) (j:Nat) (u:Value) (h:[a,b,c,d][j]? = some u):((w.alloc o).alloc (.cells #[a,b,c,d] t)).cell? ((⟨w.heap.size+1,0,none⟩:Addr).add j)=some u:=by
 have hadd:(⟨w.heap.size+1,0,none⟩:Addr).add j=⟨(w.alloc o).heap.size,j,none⟩:=by unfold Addr.add;split <;> simp_all
 rw [hadd,cell_of_row _ _ _ #[a,b,c,d] t (0,0) (heap_alloc_new (w.alloc o) _)]
 simpa using h
theorem Mill.four_one (nm:ByteArray) (r:Int) (a a':Option Addr) (n c n' c':Nat):∀ u ∈ [Value.string nm,.int .i64 r,.slice a n c,.slice a' n' c'],u.oneCell'=true:=by
 intro u hu
 simp at hu
 rcases hu with rfl | rfl | rfl | rfl <;> rfl
def Mill.fnC (fs:List Mill.FnR):List Value:=fs.flatMap (fun f=>[.string f.name,.int .i64 f.result,f.sp,f.sb])
theorem Mill.fnC_snoc (fs:List Mill.FnR) (f:Mill.FnR):Mill.fnC (fs++[f])=Mill.fnC fs++[.string f.name,.int .i64 f.result,f.sp,f.sb]:=by simp [Mill.fnC]
def Mill.progK (ks:List Int):Bool:=ks.all (fun k=>k == 23) && decide (1≤ks.length) && decide (ks.length≤60)
def Mill.ProgX (P:Nat→Prop) (w:World) (us:List Value) (X:Value):Prop := ∃ (fs:List Mill.FnR) (SF:Value),us=fs.map Mill.fnV∧Mill.Sl P w SF fs.length (Mill.fnC fs)∧X = .agg #[SF]∧∃ a n c,SF = .slice a n c
theorem grownProgram_any (P:Nat→Prop) (us:List Value) (ks:List Int) (S:Value) (n:Nat) (HN:Hid (ks.length=n)) (w:World) (hP:∀ g,P g→g < w.heap.size) (hS:Mill.Sl P w S n us) (hk:Mill.Kinded us ks) :
  Calls Tryz.prog 108 #[S] w fun e w'=>Mill.GrownT w 51 (Mill.progK ks) (Mill.ProgX (fun g=>w.heap.size≤g∧g < w'.heap.size) w' us) e w':=by
 obtain ⟨i0,hi0,hz0,hz1,hz2⟩:=info_parts Tryz.infoFn
 have tp:=Tryz.ta_fnNode
 obtain ⟨a,c,rfl,hc⟩:=hS
 by_cases h1:n < 1
 ·have HF:Hid (Mill.progK ks=false):=by
   have hq:¬ 1≤ks.length:=by rw [HN.out];omega
   rw [Hid];simp only [Mill.progK,hq,decide_false,Bool.and_false,Bool.false_and]
  have h1':(n:Int) < 1:=by omega
  clear hc h1
  go_enter Tryz.func108,Tryz.ntmps108
  go_wp2
  go_ret
  exact ⟨Below.refl _ _,.inr ⟨HF.out,rfl⟩⟩
 ·by_cases h60:60 < n
  ·have HF:Hid (Mill.progK ks=false):=by
    have hq:¬ ks.length≤60:=by rw [HN.out];omega
    rw [Hid];simp only [Mill.progK,hq,decide_false,Bool.and_false]
   have h1':¬ (n:Int) < 1:=by omega
   have h2':(60:Int) < (n:Int):=by omega
   clear hc h1 h60
   go_enter Tryz.func108,Tryz.ntmps108
   go_wp2
   go_ret
   exact ⟨Below.refl _ _,.inr ⟨HF.out,rfl⟩⟩
  ·have hn1:(1:Int)≤(n:Int):=by omega
   have hn2:(n:Int)≤60:=by omega
   have HFN:Hid (Mill.progK ks=ks.all (fun k=>k == 23)):=by
    have hq1:1≤ks.length:=by rw [HN.out];omega
    have hq2:ks.length≤60:=by rw [HN.out];omega
    rw [Hid];simp only [Mill.progK,hq1,hq2,decide_true,Bool.and_true]
   have hul:us.length=n:=by rw [hk.1];exact HN.out
   obtain ⟨g,rfl,hg2⟩:∃ g,a=some ⟨g,0,none⟩∧g < w.heap.size:=by
    obtain ⟨u,hu⟩:∃ u,us[0]? = some u:=⟨_,List.getElem?_eq_getElem (by omega)⟩
    obtain ⟨g,ha,hg,_⟩:=hc 0 u hu
    exact ⟨g,ha,hP g hg⟩
   have hcell:∀ {W:World},Below w.heap.size w W→∀ j u,us[j]? = some u→W.cell? ⟨g,j,none⟩=some u:=by
    intro W hW j u hj
    obtain ⟨g',hg',_,hq⟩:=hc j u hj
    cases hg'
    rw [hW.cell (p:=⟨g,j,none⟩) hg2];exact hq
   clear hc
   go_enter Tryz.func108,Tryz.ntmps108
   go_wp2
   go_loopw [18] (fun tv wr => ∃ (i:Nat) (fs:List Mill.FnR) (av:Option Addr) (cv:Nat),i≤n∧tv = .int .i64 (i:Int)∧fs.length=i∧us.take i=fs.map Mill.fnV∧(ks.take i).all (fun k=>k == 23)=true∧wr.ownsRow (w.heap.size+1) 79 4 (.slice av i cv) i (Mill.fnC fs)∧Below w.heap.size w wr∧w.heap.size+1≤wr.heap.size∧wr.cell? ⟨w.heap.size,0,none⟩=some (.slice av i cv)∧∀ j,wr.frozen? ⟨w.heap.size,j,none⟩=false) (fun tv _=>n - (intOf tv).toNat)
   case atStart =>
    refine ⟨0,[],none,0,by omega,rfl,rfl,by simp,by simp,⟨by simp [Mill.fnC],.inl ⟨rfl,rfl⟩⟩,(Below.refl _ w).alloc (Nat.le_refl _) _,by simp, ?_, ?_⟩
    all_goals simp [go_sem]
   case round =>
    obtain ⟨i,fs,av,cv,hi,rfl,hpl,hpt,hka,hown,hbw,hsz,q0,qf⟩:=hrel
    by_cases hlt:i < n
    ·obtain ⟨u,hui⟩:∃ u,us[i]? = some u:=⟨_,List.getElem?_eq_getElem (by omega)⟩
     obtain ⟨kp,yp,hp1,hp2,hp3,rfl,hpf⟩:=Mill.us_at hk i u hui
     have ci:=hcell hbw i _ hui
     clear hcell
     by_cases h22:kp=23
     ·subst h22
      obtain ⟨nm,r,a1,n1,c1,a2,n2,c2,rfl⟩:=hpf.2.2.2 rfl
      have htp:Mill.ty 23=79:=rfl
      rw [htp] at ci hui
      have HPT:Hid (us.take (i+1)=(fs++[(⟨nm,r,a1,n1,c1,a2,n2,c2⟩:Mill.FnR)]).map Mill.fnV):=by
       have hil:i < us.length:=by omega
       have h6:us[i]=Mill.fnV ⟨nm,r,a1,n1,c1,a2,n2,c2⟩:=by
        rw [List.getElem?_eq_getElem hil] at hui;exact Option.some.inj hui
       rw [Hid,← List.take_append_getElem hil,h6,hpt,List.map_append];rfl
      have HKA:Hid ((ks.take (i+1)).all (fun k=>k == 23)=true):=by
       have hil:i < ks.length:=by rw [HN.out];omega
       have h6:ks[i]=23:=by rw [List.getElem?_eq_getElem hil] at hp3;exact Option.some.inj hp3
       rw [Hid,← List.take_append_getElem hil,h6,List.all_append,hka];rfl
      clear hpt hka hp1 hp2 hp3 hpf htp
      have hsl:w.heap.size < wr.heap.size:=by omega
      go_wp2_with (first | (at_builtin;(refine wpList_append_own _ rfl _ _ 49 rfl (w.heap.size+1) 79 i0 (.agg #[.string ByteArray.empty,.int .i64 0,.slice none 0 0,.slice none 0 0]) 4 72 Tryz.underlying49 hi0 hz0 hz1 hz2 rfl (by decide) _ _ _ rfl ((hown.alloc _).alloc _) ⟨wr.heap.size+1,0,none⟩ 1 1 [.string nm,.int .i64 r,.slice a1 n1 c1,.slice a2 n2 c2] rfl rfl (Mill.cell4_new _ _ _ _ _ _ _) (Mill.four_one _ _ _ _ _ _ _ _) (by unfold maxLen;omega) (by omega) (by simp only [World.size_alloc];omega) ?_;intro v' w3 hown' hgrow3 _;obtain ⟨a',c',hv'⟩:=Mill.rowLen hown';subst hv';have hb3:Below (w.heap.size+1) wr w3:=Below.grown (((Below.refl _ wr).alloc hsz _).alloc (by simp only [World.size_alloc];omega) _) hgrow3 (by simp only [World.size_alloc];omega) (fun j hj=>(hown.lt _ hj).1);have d2:w3.cell? ⟨w.heap.size,0,none⟩=some (.slice av i cv):=(by rw [hb3.cell (p:=⟨w.heap.size,0,none⟩) (Nat.lt_succ_self _)];exact q0);have df:w3.frozen? ⟨w.heap.size,0,none⟩=false:=(by rw [hb3.frozen (p:=⟨w.heap.size,0,none⟩) (Nat.lt_succ_self _)];exact qf 0))))
      have hs3:=hb3.size
      go_roundw
      case rel =>
       refine ⟨i+1,fs++[⟨nm,r,a1,n1,c1,a2,n2,c2⟩],a',c',by omega,by go_num,by simp [hpl],HPT.out,HKA.out, ?_, ?_,by simp;omega, ?_, ?_⟩
       ·rw [Mill.fnC_snoc];exact ownsRow_setCell_below hown' (a:=⟨w.heap.size,0,none⟩) (by simp) _
       ·exact (hbw.trans (hb3.mono (by omega))).setCell (p:=⟨w.heap.size,0,none⟩) (Nat.le_refl _) _
       ·exact World.cell?_setCell_same _ _ _ d2
       ·intro j;simp only [World.frozen?_setCell];rw [hb3.frozen (p:=⟨w.heap.size,j,none⟩) (by simp)];exact qf j
      case measure=>simp [intOf];omega
     ·have htp:¬ Mill.ty kp=79:=Mill.ty_ne hp1 hp2 (j:=23) (by omega) (by omega) h22
      have HF:Hid (Mill.progK ks=false):=by
       rw [Hid,HFN.out,Bool.eq_false_iff]
       intro hall
       have:=List.all_eq_true.1 hall kp (List.mem_of_getElem? hp3)
       simp at this;exact h22 this
      go_wp2
      go_ret
      exact ⟨hbw.alloc (by omega) _,.inr ⟨HF.out,rfl⟩⟩
    ·have hie:i=n:=by omega
     subst hie
     have hT:ks.take i=ks:=List.take_of_length_le (by rw [HN.out];exact Nat.le_refl _)
     have hU:us.take i=us:=List.take_of_length_le (by omega)
     rw [hT] at hka
     rw [hU] at hpt
     have HF:Hid (Mill.progK ks=true):=by rw [Hid,HFN.out];exact hka
     clear hT hU hka
     go_wp2
     go_ret
     refine ⟨hbw,.inl ⟨HF.out,_,rfl,fs,_,hpt, ?_,rfl,_,_,_,rfl⟩⟩
     rw [hpl]
     exact (Mill.sl_own hown).below (fun g h=>⟨by omega,h.2⟩) (fun g h=>rfl)
theorem Mill.ite_imp {c:Prop} [Decidable c] {A A' B B':Prop} (h1:A→A') (h2:B→B'):(if c then A else B)→(if c then A' else B'):=by
 by_cases h:c
 ·rw [if_pos h,if_pos h];exact h1
 ·rw [if_neg h,if_neg h];exact h2
theorem Mill.Inner.below {P Q:Nat→Prop} {w w':World} {d:Mill.Nd} {us:List Value} {x:Value} (h:Mill.Inner P w d us x) (hQ:∀ g,P g→Q g) (hc:∀ g,P g→w'.heap[g]? = w.heap[g]?):Mill.Inner Q w' d us x:=by
 unfold Mill.Inner at h ⊢
 exact (Mill.ite_imp id (Mill.ite_imp id (Mill.ite_imp id (Mill.ite_imp id (Mill.ite_imp id (Mill.ite_imp id (Mill.ite_imp (fun ⟨S,h1,h2⟩=>⟨S,h1.below hQ hc,h2⟩) (Mill.ite_imp (fun ⟨S,h1,h2⟩=>⟨S,h1.below hQ hc,h2⟩) (Mill.ite_imp id (Mill.ite_imp id (Mill.ite_imp id (Mill.ite_imp id (Mill.ite_imp id (Mill.ite_imp id (Mill.ite_imp id (Mill.ite_imp id (Mill.ite_imp id (Mill.ite_imp (fun ⟨S,h1,h2⟩=>⟨S,h1.below hQ hc,h2⟩) (Mill.ite_imp id (Mill.ite_imp (fun ⟨ps,SP,SB,h1,h2,h3⟩=>⟨ps,SP,SB,h1,h2.below hQ hc,h3⟩) (fun ⟨fs,SF,h1,h2,h3⟩=>⟨fs,SF,h1,h2.below hQ hc,h3⟩))))))))))))))))))))) h
theorem Mill.Shape.below {P Q:Nat→Prop} {w w':World} {d:Mill.Nd} {us:List Value} {v:Value} (h:Mill.Shape P w d us v) (hQ:∀ g,P g→Q g) (hc:∀ g,P g→w'.heap[g]? = w.heap[g]?):Mill.Shape Q w' d us v:=by
 obtain ⟨h1,h2,x,hv,hx⟩:=h
 exact ⟨h1,h2,x,hv,hx.below hQ hc⟩
theorem Mill.Grown.from {P:Nat→Prop} {w w1 w':World} {d:Mill.Nd} {us:List Value} {ks:List Int} {e:Ending} (h:Mill.Grown P w1 d us ks e w') (hb:Below w.heap.size w w1):Mill.Grown P w d us ks e w':=by
 obtain ⟨h1,h2⟩:=h
 refine ⟨hb.trans (h1.mono hb.size), ?_⟩
 rcases h2 with ⟨h3,v,h4,h5⟩ | h3
 ·exact .inl ⟨h3,v,h4,h5.below (fun g hg=>by rcases hg with hg | hg;exact .inl hg;exact .inr ⟨Nat.le_trans hb.size hg.1,hg.2⟩) (fun g _=>rfl)⟩
 ·exact .inr h3
theorem grown_value (c o t y:Int) (x:ByteArray) (k:Int) (h1:1≤c) (h2:c≤9) (ho:c=8→1≤o∧o≤12) (P:Nat→Prop) (us:List Value) (ks:List Int) (S:Value) (n:Nat) (HN:Hid (ks.length=n)) (w:World) (hW:Mill.Builts w) (hP:∀ g,P g→g < w.heap.size) (hS:Mill.Sl P w S n us) (hk:Mill.Kinded us ks) (hl:n≤1000000) :
  Calls Tryz.prog 103 #[Mill.ndV ⟨c,o,t,y,x,k⟩,S] w fun e w'=>Mill.Grown P w ⟨c,o,t,y,x,k⟩ us ks e w':=by
 have:c=1∨c=2∨c=3∨c=4∨c=5∨c=6∨c=7∨c=8∨c=9:=by omega
 rcases this with rfl | rfl | rfl | rfl | rfl | rfl | rfl | rfl | rfl
 ·exact grownValue_1 o t y x k P us ks S n HN w hP hS hk hl
 ·exact grownValue_2 o t y x k P us ks S n HN w hP hS hk hl
 ·exact grownValue_3 o t y x k P us ks S n HN w hP hS hk hl
 ·exact grownValue_4 o t y x k P us ks S n HN w hP hS hk hl
 ·exact grownValue_5 o t y x k P us ks S n HN w hP hS hk hl
 ·exact grownValue_6 o t y x k P us ks S n HN w hP hS hk hl
 ·exact grownValue_7 o t y x k P us ks S n HN w hP hS hk hl
 ·exact grownValue_8 o t y x k (ho rfl) P us ks S n HN w hW hP hS hk hl
 ·exact grownValue_9 o t y x k P us ks S n HN w hP hS hk hl
theorem grown_statement (c o t y:Int) (x:ByteArray) (k:Int) (h1:10≤c) (h2:c≤20) (P:Nat→Prop) (us:List Value) (ks:List Int) (S:Value) (n:Nat) (HN:Hid (ks.length=n)) (w:World) (hP:∀ g,P g→g < w.heap.size) (hS:Mill.Sl P w S n us) (hk:Mill.Kinded us ks) (hl:n≤1000000) :
  Calls Tryz.prog 104 #[Mill.ndV ⟨c,o,t,y,x,k⟩,S] w fun e w'=>Mill.Grown P w ⟨c,o,t,y,x,k⟩ us ks e w':=by
 have:c=10∨c=11∨c=12∨c=13∨c=14∨c=15∨c=16∨c=17∨c=18∨c=19∨c=20:=by omega
 rcases this with rfl | rfl | rfl | rfl | rfl | rfl | rfl | rfl | rfl | rfl | rfl
 ·exact grownStatement_10 o t y x k P us ks S n HN w hP hS hk hl
 ·exact grownStatement_11 o t y x k P us ks S n HN w hP hS hk hl
 ·exact grownStatement_12 o t y x k P us ks S n HN w hP hS hk
 ·exact grownStatement_13 o t y x k P us ks S n HN w hP hS hk
 ·exact grownStatement_14 o t y x k P us ks S n HN w hP hS hk hl
 ·exact grownStatement_15 o t y x k P us ks S n HN w hP hS hk hl
 ·exact grownStatement_16 o t y x k P us ks S n HN w hP hS hk hl
 ·exact grownStatement_17 o t y x k P us ks S n HN w hP hS hk hl
 ·exact grownStatement_18 o t y x k P us ks S n HN w hP hS hk hl
 ·exact grownStatement_19 o t y x k P us ks S n HN w hP hS hk hl
 ·exact grownStatement_20 o t y x k P us ks S n HN w hP hS hk
def Mill.Cap (S:Value) (n:Nat):Prop := ∀ a c,S = .slice a n c→n≤c
theorem grown_any (c o t y:Int) (x:ByteArray) (k:Int) (ho:c=8→1≤o∧o≤12) (P:Nat→Prop) (us:List Value) (ks:List Int) (S:Value) (n:Nat) (HN:Hid (ks.length=n)) (w:World) (hW:Mill.Builts w) (hP:∀ g,P g→g < w.heap.size) (hS:Mill.Sl P w S n us) (hcap:Mill.Cap S n) (hk:Mill.Kinded us ks) (hl:n≤1000000) :
  Calls Tryz.prog 73 #[Mill.ndV ⟨c,o,t,y,x,k⟩,S] w fun e w'=>Mill.Grown P w ⟨c,o,t,y,x,k⟩ us ks e w':=by
 have hbw:=(Below.refl w.heap.size w).alloc (Nat.le_refl _) (.cells #[.int .i64 c,.int .i64 o,.int .i64 t,.int .i64 y,.string x,.int .i64 k] 43)
 have hS1:=hS.alloc hP (.cells #[.int .i64 c,.int .i64 o,.int .i64 t,.int .i64 y,.string x,.int .i64 k] 43)
 have hP1:∀ g,P g→g < (w.alloc (.cells #[.int .i64 c,.int .i64 o,.int .i64 t,.int .i64 y,.string x,.int .i64 k] 43)).heap.size:=fun g h=>by have:=hP g h;rw [World.size_alloc];omega
 have hW1:Mill.Builts (w.alloc (.cells #[.int .i64 c,.int .i64 o,.int .i64 t,.int .i64 y,.string x,.int .i64 k] 43)):=⟨fun m h1 h2=>by rw [World.cell?_alloc_past _ _ _ hW.2];exact hW.1 m h1 h2,by rw [World.size_alloc];have:=hW.2;omega⟩
 have hul:us.length=n:=by rw [hk.1];exact HN.out
 by_cases h1:1≤c∧c≤9
 ·obtain ⟨h1,h2⟩:=h1
  simp only [Mill.ndV]
  go_enter Tryz.func73,Tryz.ntmps73
  go_wp2_with (go_at_call 103;refine (grown_value c o t y x k h1 h2 ho P us ks S n HN _ hW1 hP1 hS1 hk hl).mono ?_;intro e w' hg;have hg':=Mill.Grown.from hg hbw;clear hg;obtain ⟨v,rfl⟩:∃ v,e = .returned v:=by { rcases hg'.2 with ⟨_,v,h,_⟩ | ⟨_,h⟩;exact ⟨v,h⟩;exact ⟨_,h⟩ })
  go_ret
  exact hg'
 ·by_cases h2:10≤c∧c≤20
  ·obtain ⟨h3,h4⟩:=h2
   have h5:¬ c≤9:=by omega
   clear h1
   simp only [Mill.ndV]
   go_enter Tryz.func73,Tryz.ntmps73
   go_wp2_with (go_at_call 104;refine (grown_statement c o t y x k h3 h4 P us ks S n HN _ hP1 hS1 hk hl).mono ?_;intro e w' hg;have hg':=Mill.Grown.from hg hbw;clear hg;obtain ⟨v,rfl⟩:∃ v,e = .returned v:=by { rcases hg'.2 with ⟨_,v,h,_⟩ | ⟨_,h⟩;exact ⟨v,h⟩;exact ⟨_,h⟩ })
   go_ret
   exact hg'
  ·by_cases h21:c=21
   ·subst h21
    obtain ⟨b,HB⟩:∃ b,Hid (ks.all Mill.isS=b):=⟨_,(rfl:ks.all Mill.isS=_)⟩
    have HF:Hid (Mill.fits 21 o ks=b):=by rw [Hid];simp [Mill.fits];exact HB.out
    obtain ⟨a,cc,rfl,hc⟩:=hS
    clear hc h1 h2
    simp only [Mill.ndV]
    cases b with
    | false =>
     go_enter Tryz.func73,Tryz.ntmps73
     go_wp2_with (go_at_call 105;refine (allStatement_is false P us ks HB _ n HN _ hS1 hk hl).mono ?_;rintro e w' ⟨rfl,rfl⟩)
     go_ret
     exact ⟨hbw,.inr ⟨HF.out,rfl⟩⟩
    | true =>
     go_enter Tryz.func73,Tryz.ntmps73
     go_wp2_with (go_at_call 105;refine (allStatement_is true P us ks HB _ n HN _ hS1 hk hl).mono ?_;rintro e w' ⟨rfl,rfl⟩)
     go_ret
     refine ⟨hbw,.inl ⟨HF.out,_,rfl,by simp,by simp,_,rfl, ?_⟩⟩
     have hS2:=hS1.below (Q:=fun g=>P g∨(w.heap.size≤g∧g < (w.alloc (.cells #[.int .i64 21,.int .i64 o,.int .i64 t,.int .i64 y,.string x,.int .i64 k] 43)).heap.size)) (fun g h => .inl h) (fun g h=>rfl)
     rw [← hul] at hS2
     unfold Mill.Inner
     simp (decide:=true) only [if_false,if_true]
     exact ⟨_,hS2,by rw [hul]⟩
   ·by_cases h22:c=22
    ·subst h22
     obtain ⟨a,cc,rfl,hc⟩:=hS
     clear hc h1 h2
     simp only [Mill.ndV]
     by_cases h0:n=0
     ·subst h0
      have HF:Hid (Mill.fits 22 o ks=true):=by rw [Hid];have:=HN.out;simp [Mill.fits,this]
      obtain rfl:=Mill.us0 hul
      go_enter Tryz.func73,Tryz.ntmps73
      go_wp2_with fail
      go_ret
      exact ⟨hbw,.inl ⟨HF.out,_,rfl,by simp,by simp,_,rfl,by simp [Mill.Inner]⟩⟩
     ·have HF:Hid (Mill.fits 22 o ks=false):=by rw [Hid];have:=HN.out;simp [Mill.fits,this,h0]
      have h0':((n:Int) == 0)=false:=by simpa using (by omega:¬ (n:Int)=0)
      clear h0 hul
      go_enter Tryz.func73,Tryz.ntmps73
      go_wp2_with fail
      go_ret
      exact ⟨hbw,.inr ⟨HF.out,rfl⟩⟩
    ·by_cases h23:c=23
     ·subst h23
      have HK:Hid (Mill.fits 23 o ks=Mill.fnK ks):=by rw [Hid];simp [Mill.fits]
      clear h1 h2
      cases hK:Mill.fnK ks with
      | true =>
       rw [hK] at HK
       simp only [Mill.ndV]
       go_enter Tryz.func73,Tryz.ntmps73
       go_wp2_with (go_at_call 107;refine (grownFn_any 23 o t y x k P us ks S n HN _ hP1 hS1 hcap hk hl).mono ?_;rintro e w' ⟨hb2,hg⟩;rw [hK] at hg;obtain ⟨_,x',rfl,ps,SP,SB,e1,e2,rfl,e4,e5⟩:=hg.resolve_right (by simp))
       go_ret
       refine ⟨hbw.trans (hb2.mono (by rw [World.size_alloc];omega)),.inl ⟨HK.out,_,rfl,by simp,by simp,_,rfl, ?_⟩⟩
       unfold Mill.Inner
       simp (decide:=true) only [if_false,if_true]
       exact ⟨ps,SP,SB,e1,e2.below (fun g h => .inr ⟨by have:=h.1;rw [World.size_alloc] at this;omega,h.2⟩) (fun g _=>rfl),rfl⟩
      | false =>
       rw [hK] at HK
       simp only [Mill.ndV]
       go_enter Tryz.func73,Tryz.ntmps73
       go_wp2_with (go_at_call 107;refine (grownFn_any 23 o t y x k P us ks S n HN _ hP1 hS1 hcap hk hl).mono ?_;rintro e w' ⟨hb2,hg⟩;rw [hK] at hg;obtain ⟨_,rfl⟩:=hg.resolve_left (by simp))
       go_ret
       exact ⟨hbw.trans (hb2.mono (by rw [World.size_alloc];omega)),.inr ⟨HK.out,rfl⟩⟩
     ·by_cases h24:c=24
      ·subst h24
       have HK:Hid (Mill.fits 24 o ks=Mill.progK ks):=by rw [Hid];simp [Mill.fits,Mill.progK]
       clear h1 h2 h21 h22 h23
       cases hK:Mill.progK ks with
       | true =>
        rw [hK] at HK
        simp only [Mill.ndV]
        go_enter Tryz.func73,Tryz.ntmps73
        go_wp2_with (go_at_call 108;refine (grownProgram_any P us ks S n HN _ hP1 hS1 hk).mono ?_;rintro e w' ⟨hb2,hg⟩;rw [hK] at hg;obtain ⟨_,x',rfl,fs,SF,e1,e2,rfl,e4⟩:=hg.resolve_right (by simp))
        go_ret
        refine ⟨hbw.trans (hb2.mono (by rw [World.size_alloc];omega)),.inl ⟨HK.out,_,rfl,by simp,by simp,_,rfl, ?_⟩⟩
        unfold Mill.Inner
        simp (decide:=true) only [if_false]
        exact ⟨fs,SF,e1,e2.below (fun g h => .inr ⟨by have:=h.1;rw [World.size_alloc] at this;omega,h.2⟩) (fun g _=>rfl),rfl⟩
       | false =>
        rw [hK] at HK
        simp only [Mill.ndV]
        go_enter Tryz.func73,Tryz.ntmps73
        go_wp2_with (go_at_call 108;refine (grownProgram_any P us ks S n HN _ hP1 hS1 hk).mono ?_;rintro e w' ⟨hb2,hg⟩;rw [hK] at hg;obtain ⟨_,rfl⟩:=hg.resolve_left (by simp))
        go_ret
        exact ⟨hbw.trans (hb2.mono (by rw [World.size_alloc];omega)),.inr ⟨HK.out,rfl⟩⟩
      ·have hn:∀ m:Int,1≤m→m≤24→c≠m:=fun m h3 h4=>by omega
       have HF:Hid (Mill.fits c o ks=false):=by rw [Hid];simp [Mill.fits,hn]
       have e1:¬ (1≤c∧c≤9):=h1
       have hcc:c < 1∨24 < c:=by omega
       obtain ⟨a,cc,rfl,hc⟩:=hS
       clear hc hn e1 h1 h2
       simp only [Mill.ndV]
       rcases hcc with hcc | hcc
       ·have g1:¬ 1≤c:=by omega
        have g2:¬ 10≤c:=by omega
        go_enter Tryz.func73,Tryz.ntmps73
        go_wp2_with fail
        go_ret
        exact ⟨hbw,.inr ⟨HF.out,rfl⟩⟩
       ·have g1:¬ c≤9:=by omega
        have g2:¬ c≤20:=by omega
        have g3:1≤c:=by omega
        have g4:10≤c:=by omega
        go_enter Tryz.func73,Tryz.ntmps73
        go_wp2_with fail
        go_ret
        exact ⟨hbw,.inr ⟨HF.out,rfl⟩⟩
end Go.Proofs.YtlcckaffhnjneaaGreatDoor
