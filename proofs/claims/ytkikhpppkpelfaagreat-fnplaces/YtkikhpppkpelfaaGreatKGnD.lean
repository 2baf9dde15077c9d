import Derived.Test.YtkikhpppkpelfaaGreatKGnC
set_option maxRecDepth 100000
set_option maxHeartbeats 8000000
namespace Go.Proofs.YtkikhpppkpelfaaGreat
open Go.RowKit
theorem Gn.pickDI {w w1:World} {R p k:Nat} (n:Int) (hD:Mill.Dr R p k w w1) (hp:p+k≤900000000000) (h1:1≤n) (h2:n≤1048576) :
    Calls Tryz.prog 13 #[.pointer (some ⟨R,0,none⟩),.int .i64 n] w1 fun e w' => ∃ v:Int,e = .returned (.int .i64 v)∧(0≤v∧v < n)∧Mill.Dr R p (k+1) w w'∧Mill.But R w1 w':=by
  refine (pick_D n hD (by omega) h1 h2).mono ?_
  rintro e w' ⟨v,he,hv,hD',hB⟩
  exact ⟨v,he,by omega,hD',hB⟩
theorem Gn.Dr0 {w:World} {R p:Nat} (h:Mill.Rd w R p):Mill.Dr R p 0 w w:=⟨⟨p,Nat.le_refl _,Nat.le_refl _,h⟩,Mill.But.refl R w⟩
theorem Gn.k17 {k:Int} (h:0≤k∧k < 17):(k=0∧Gn.Mk)∨(k=1∧Gn.Mk)∨(k=2∧Gn.Mk)∨(k=3∧Gn.Mk)∨(k=4∧Gn.Mk)∨(k=5∧Gn.Mk)∨(k=6∧Gn.Mk)∨(k=7∧Gn.Mk)∨(k=8∧Gn.Mk)∨(k=9∧Gn.Mk)∨(k=10∧Gn.Mk)∨(k=11∧Gn.Mk)∨(k=12∧Gn.Mk)∨(k=13∧Gn.Mk)∨(k=14∧Gn.Mk)∨(k=15∧Gn.Mk)∨(k=16∧Gn.Mk):=by
  simp only [Gn.Mk,and_true]
  omega
theorem Gn.nat3 {v:Nat} (h:(v:Int) < 3):v < 3:=by omega
theorem Gn.cat3 {a t b:ByteArray} (ha:a.size≤5000) (hb:b.size≤5000) (ht:t.size≤5000):(a++t++b).size≤20000:=by rw [ByteArray.size_append,ByteArray.size_append];omega
theorem Gn.cat4 {x a t b:ByteArray} {j:Int} (hj:0≤j) (hx:x.size≤30+40 * j.toNat) (ha:a.size≤10) (hb:b.size≤10) (ht:t.size≤20):(x++a++t++b).size≤30+40 * (j+1).toNat:=by
  rw [ByteArray.size_append,ByteArray.size_append,ByteArray.size_append,show (j+1).toNat=j.toNat+1 by omega];omega
theorem Gn.cat2 {x b:ByteArray} {j:Int} (hj:j≤201) (hx:x.size≤30+40 * j.toNat) (hb:b.size≤100):(x++b).size≤20000:=by rw [ByteArray.size_append];omega
theorem Gn.x_le {x:ByteArray} {j:Int} (hj:j≤201) (hx:x.size≤30+40 * j.toNat):x.size≤9000:=by omega
theorem Gn.many2 (n:Int) (hn:0≤n∧n < 2) (w:World):Calls Tryz.prog 17 #[.string ⟨#[115,97,121,32,34,34,59,32]⟩,.int .i64 n] w fun e w' => ∃ t:ByteArray,e = .returned (.string t)∧t.size≤20∧Below w.heap.size w w':=by
  obtain ⟨m,rfl⟩:=Int.eq_ofNat_of_zero_le hn.1
  refine (l1Many_any _ m w (by decide) (by omega)).mono ?_
  rintro e w' ⟨t,he,ht,hb⟩
  have e8:(⟨#[115,97,121,32,34,34,59,32]⟩:ByteArray).size=8:=rfl
  rw [e8] at ht
  exact ⟨t,he,by omega,hb⟩
theorem Gn.wrc (c:Int) {n:Int} (h:0≤n∧n < 2) (hc:0≤c∧c≤1000):wrap64 (c+n)=c+n:=IntWalk.wrap64_in _ (by omega)
def Gn.SpPost (R p:Nat) (w:World) (e:Ending) (w':World):Prop := ∃ t:ByteArray,e = .returned (.string t)∧t.size≤20000∧Mill.Dr R p 3 w w'
theorem Gn.special_any {w:World} {R p:Nat} (hr:Mill.Rd w R p) (hp:p≤800000000000) :
    Calls Tryz.prog 41 #[.pointer (some ⟨R,0,none⟩)] w (Gn.SpPost R p w):=by
  have hD:=Gn.Dr0 hr
  have b0:p+0≤900000000000:=by omega
  have b1:p+(0+1)≤900000000000:=by omega
  have b2:p+(0+1+1)≤900000000000:=by omega
  have t0:Gn.Mk:=trivial
  go_enter Tryz.func41,Tryz.ntmps41
  go_wp2_with (first
    | (go_at_call 13
       have _t:=t0
       clear t0
       refine (Gn.pickDI 2 hD b0 (by decide) (by decide)).mono ?_
       rintro e w1 ⟨n,rfl,hn,hD1,hB1⟩
       have hw1:=Gn.wrc 200 hn (by decide)
       have hw2:=Gn.wrc 38 hn (by decide)
       have hw3:=Gn.wrc 50 hn (by decide)
       have hw4:=Gn.wrc 100 hn (by decide)
       have t1:Gn.Mk:=trivial)
    | (go_at_call 13
       have _t:=t1
       clear t1
       refine (Gn.pickDI 17 hD1 b1 (by decide) (by decide)).mono ?_
       rintro e w2 ⟨k,rfl,hk,hD2,hB2⟩
       rcases Gn.k17 hk with ⟨rfl,m0⟩ | ⟨rfl,m1⟩ | ⟨rfl,m2⟩ | ⟨rfl,m3⟩ | ⟨rfl,m4⟩ | ⟨rfl,m5⟩ | ⟨rfl,m6⟩ | ⟨rfl,m7⟩ | ⟨rfl,m8⟩ | ⟨rfl,m9⟩ | ⟨rfl,m10⟩ | ⟨rfl,m11⟩ | ⟨rfl,m12⟩ | ⟨rfl,m13⟩ | ⟨rfl,m14⟩ | ⟨rfl,m15⟩ | ⟨rfl,m16⟩)
    | (go_at_call 55
       have _t:=m1
       clear m1
       refine (Gn.dec_any (38+n) (by omega) (by omega) w2).mono ?_
       rintro e w3 ⟨t,rfl,ht,hb3⟩
       have hD3:=hD2.below hb3)
    | (go_at_call 55
       have _t:=m2
       clear m2
       refine (Gn.dec_any (50+n) (by omega) (by omega) w2).mono ?_
       rintro e w3 ⟨t,rfl,ht,hb3⟩
       have hD3:=hD2.below hb3)
    | (go_at_call 55
       have _t:=m3
       clear m3
       refine (Gn.dec_any (100+n) (by omega) (by omega) w2).mono ?_
       rintro e w3 ⟨t,rfl,ht,hb3⟩
       have hD3:=hD2.below hb3)
    | (go_at_call 17
       have _t:=m6
       clear m6
       refine (Gn.many2 n hn w2).mono ?_
       rintro e w3 ⟨t,rfl,ht,hb3⟩
       have hD3:=hD2.below hb3)
    | (go_at_call 13
       have _t:=m15
       clear m15
       refine (pick_D 3 (hD2.alloc _) (by omega) (by decide) (by decide)).mono ?_
       rintro e w3 ⟨v,rfl,hv,hD3,hB3⟩
       obtain ⟨t,ht,hts⟩:=Mill.tab_pick (M:=200) hB3 hD2.lt (by decide) v (Gn.nat3 hv)))
  all_goals first
    | (go_ret;exact ⟨_,rfl,Gn.cat3 (by decide) (by decide) (Nat.le_trans ht (by decide)),hD3.mono (by decide)⟩)
    | (go_ret;exact ⟨_,rfl,Nat.le_trans hts (by decide),⟨hD3.at_,hD3.but⟩⟩)
    | (go_ret;exact ⟨_,rfl,by decide,hD2.mono (by decide)⟩)
    | skip
  have HD2:Hid (Mill.Dr R p (0+1+1) w w2):=hD2
  clear hD2 hB2 hD1 hB1 hD
  go_loopw [4,5] (fun s k wr => ∃ (x:ByteArray) (j:Int),(0≤j∧j≤200+n)∧k = .int .i64 j∧s = .string x∧x.size≤30+40 * j.toNat∧Mill.Dr R p (0+1+1) w wr) (fun _ k _=>(200+n - intOf k).toNat)
  case atStart=>exact ⟨_,0,by omega,rfl,rfl,by decide,HD2.out⟩
  case round =>
    obtain ⟨x,j,hj,rfl,rfl,hx,hDr⟩:=hrel
    have hj2:j≤201:=by omega
    have hxl:=Gn.x_le hj2 hx
    by_cases hlt:j < 200+n
    · have hwj:wrap64 (j+1)=j+1:=IntWalk.wrap64_in _ (by omega)
      have hj9:j≤9223372036854775807:=by omega
      have l0:Gn.Mk:=trivial
      go_wp2_with (first
    | (go_at_call 55
       have _t:=l0
       clear l0
       refine (Gn.dec_any j hj.1 hj9 wr).mono ?_
       rintro e w3 ⟨t,rfl,ht,hb3⟩
       have hD3:=hDr.below hb3))
      go_roundw
      case rel=>exact ⟨_,j+1,by omega,rfl,rfl,Gn.cat4 hj.1 hx (by decide) (by decide) ht,hD3⟩
      case measure=>simp [intOf];omega
    · go_wp2_with fail
      go_ret
      exact ⟨_,rfl,Gn.cat2 hj2 hx (by decide),hDr.mono (by decide)⟩
end Go.Proofs.YtkikhpppkpelfaaGreat
