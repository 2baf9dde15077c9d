import Derived.Test.YtfoimmnlojjfbaaGreatDoorKDrawB
import Derived.Deep.RegionHeld3
import Derived.Deep.QuietTactic
import Derived.MapKept
import Derived.Test.YtfoimmnlojjfbaaGreatDoorKDecG
import Derived.Test.YtfoimmnlojjfbaaGreatDoorKPriM
import Derived.Test.YtfoimmnlojjfbaaGreatDoorKScanG
import Derived.Laws.Closers25b
set_option maxRecDepth 100000
set_option maxHeartbeats 4000000
namespace Go.Proofs.YtfoimmnlojjfbaaGreatDoor
open Go.RowKit
def Tk.Mk : Prop:=True
theorem Tk.below_drewN {B:Nat} {a w:World} (n:Nat) (h:Below B a w):Below B a (w.drewN n):=⟨h.os,h.tape,h.output,h.size,h.block⟩
theorem Tk.pickDI {w w1:World} {R p k:Nat} (n:Int) (hD:Mill.Dr R p k w w1) (hp:p+k≤900000000000) (h1:1≤n) (h2:n≤1048576) :
  Calls Tryz.prog 8 #[.pointer (some ⟨R,0,none⟩),.int .i64 n] w1 fun e w' => ∃ v:Int,e = .returned (.int .i64 v)∧(0≤v∧v < n)∧Mill.Dr R p (k+1) w w'∧Mill.But R w1 w':=by
 refine (pick_D n hD (by omega) h1 h2).mono ?_
 rintro e w' ⟨v,he,hv,hD',hB⟩
 exact ⟨v,he,by omega,hD',hB⟩
theorem Tk.k6 {k:Int} (h:0≤k∧k < 6):(k=0∧Tk.Mk)∨(k=1∧Tk.Mk)∨(k=2∧Tk.Mk)∨(k=3∧Tk.Mk)∨(k=4∧Tk.Mk)∨(k=5∧Tk.Mk):=by
 simp only [Tk.Mk,and_true];omega
theorem Tk.bend_at {v:Int} {n:Nat} (hv:0≤v∧v < 256) (hn:n≤1000000):∃ i:Int,wrap64 ((wrap64 (v * ((n:Int)+1))).tdiv 256)=i∧0≤i∧i≤(n:Int):=by
 have h1:0≤v * ((n:Int)+1):=Int.mul_nonneg hv.1 (by omega)
 have h2:v * ((n:Int)+1)≤255 * ((n:Int)+1):=Int.mul_le_mul_of_nonneg_right (by omega) (by omega)
 rw [IntWalk.wrap64_in (v * ((n:Int)+1)) (by omega),Int.tdiv_eq_ediv_of_nonneg h1,IntWalk.wrap64_in _ (by omega)]
 exact ⟨_,rfl,by omega,by omega⟩
theorem Tk.cut_le (s:ByteArray) (a b:Nat):(s.extract a b).size≤s.size:=by rw [ByteArray.size_extract];omega
theorem Tk.tab_new (w:World) {cs:Array Value} (T M:Nat) (hM:cs.toList.all (Mill.strB M)=true) (v:Nat) (hv:v < cs.size):∃ t:ByteArray,(w.alloc (.cells cs T)).cell? ⟨w.heap.size,v,none⟩=some (.string t)∧t.size≤M:=by
 have h0:=(MapKept.heap_alloc w (.cells cs T)).1
 rw [List.all_eq_true] at hM
 obtain ⟨t,ht,hm⟩:=Mill.strB_of (hM cs[v] (Array.getElem_mem_toList hv))
 refine ⟨t, ?_,hm⟩
 unfold World.cell?
 simp only [h0]
 rw [Array.getElem?_eq_getElem hv,ht];rfl
theorem Tk.tab_pick {w w1:World} {R:Nat} {cs:Array Value} {T M:Nat} (hB:Mill.But R (w.alloc (.cells cs T)).drew w1) (hR:R < w.heap.size) (hM:cs.toList.all (Mill.strB M)=true) (v:Nat) (hv:v < cs.size):∃ t:ByteArray,w1.cell? ⟨w.heap.size,v,none⟩=some (.string t)∧t.size≤M :=
 Mill.tab_pick ((Mill.But.of_below (Below.refl _ (w.alloc (.cells cs T))).drew).trans hB) hR hM v hv
theorem Tk.wrap8 {x:Int} (h:0≤x∧x < 256):IntKind.u8.wrap x=x:=by
 have:IntKind.u8.wrap x=x % 256:=rfl
 rw [this];omega
theorem Tk.one_text (x:Int):∃ t:ByteArray,(⟨#[UInt8.ofNat x.toNat]⟩:ByteArray)=t∧t.size≤1:=⟨_,rfl,Nat.le_refl _⟩
theorem Tk.bend_D {w w1:World} {R p k:Nat} (s:ByteArray) (hs:s.size≤1000000) (hD:Mill.Dr R p k w w1) (hp:p+k≤800000000000) :
    Calls Tryz.prog 17 #[.pointer (some ⟨R,0,none⟩),.string s] w1 fun e w' => ∃ t:ByteArray,e = .returned (.string t)∧t.size≤2000020∧Mill.Dr R p (k+3) w w'∧Mill.But R w1 w':=by
  have b0:p+k≤900000000000:=by omega
  have b1:p+(k+1)≤900000000000:=by omega
  have b2:p+(k+1+1)≤900000000000:=by omega
  have t0:Tk.Mk:=trivial
  go_enter Tryz.func17,Tryz.ntmps17
  go_wp2_with (first
    | (go_at_call 8
       have _t:=t0
       clear t0
       refine (Tk.pickDI 256 hD b0 (by decide) (by decide)).mono ?_
       rintro e w2 ⟨v,rfl,hv,hD2,hB2⟩
       obtain ⟨i,hI,hi0,hi1⟩:=Tk.bend_at hv hs
       obtain ⟨X,hX⟩:∃ X,s.extract 0 i.toNat=X:=⟨_,rfl⟩
       obtain ⟨Y,hY⟩:∃ Y,s.extract i.toNat s.size=Y:=⟨_,rfl⟩
       have hXs:X.size≤1000000:=(by rw [← hX];exact Nat.le_trans (Tk.cut_le _ _ _) hs)
       have hYs:Y.size≤1000000:=(by rw [← hY];exact Nat.le_trans (Tk.cut_le _ _ _) hs)
       have n1:¬ (9223372036854775807 < s.size+Y.size):=(by omega)
       have n2:¬ (9223372036854775807 < X.size+Y.size):=(by omega)
       have t1:Tk.Mk:=trivial)
    | (go_at_call 8
       have _t:=t1
       clear t1
       refine (Tk.pickDI 6 hD2 b1 (by decide) (by decide)).mono ?_
       rintro e w3 ⟨q,rfl,hq,hD3,hB3⟩
       rcases Tk.k6 hq with ⟨rfl,m0⟩ | ⟨rfl,m1⟩ | ⟨rfl,m2⟩ | ⟨rfl,m3⟩ | ⟨rfl,m4⟩ | ⟨rfl,m5⟩)
    | (go_at_call 8
       have _t:=m4
       clear m4
       refine (Tk.pickDI 12 hD3 b2 (by decide) (by decide)).mono ?_
       rintro e w4 ⟨x,rfl,hx,hD4,hB4⟩
       have hwx:wrap64 (i+x)=i+x:=IntWalk.wrap64_in _ (by omega)))
  · go_ret
    exact ⟨X,rfl,by omega,hD3.mono (by omega),hB2.trans hB3⟩
  · have hDb:Mill.Dr R p (k+1+1) w w3.drew:=hD3.below (Below.refl _ _).drew
    have hR3:R < w3.heap.size:=hD3.lt
    have hDa:∀ o,Mill.Dr R p (k+1+1) w (w3.alloc o).drew:=fun o=>hD3.below ((Below.refl _ _).alloc (Nat.le_refl _) o).drew
    go_region_with (first | (go_at_call 8;with_reducible refine (pick_D 16 hDb (by omega) (by decide) (by decide)).mono ?_;rintro e w4 ⟨x,rfl,hx,hD4,hB4⟩;obtain ⟨t,ht,hts⟩:=Tk.tab_new w4 (cs := #[.string ⟨#[32]⟩,.string ⟨#[10]⟩,.string ⟨#[34]⟩,.string ⟨#[92]⟩,.string ⟨#[48]⟩,.string ⟨#[120]⟩,.string ⟨#[92,52]⟩,.string ⟨#[123]⟩,.string ⟨#[41]⟩,.string ⟨#[59]⟩,.string ⟨#[35]⟩,.string ⟨#[40]⟩,.string ⟨#[61]⟩,.string ⟨#[105,102,32]⟩,.string ⟨#[117,56]⟩,.string ⟨#[38]⟩]) 9 3 (by decide) x (by have h16:x < 16:=(by omega);simpa using h16);have n3:¬ (9223372036854775807 < X.size+t.size):=(by omega);have n4:¬ (9223372036854775807 < X.size+t.size+Y.size):=(by omega);have hD5:Mill.Dr R p (k+1+1+1) w (w4.alloc (.cells #[.string ⟨#[32]⟩,.string ⟨#[10]⟩,.string ⟨#[34]⟩,.string ⟨#[92]⟩,.string ⟨#[48]⟩,.string ⟨#[120]⟩,.string ⟨#[92,52]⟩,.string ⟨#[123]⟩,.string ⟨#[41]⟩,.string ⟨#[59]⟩,.string ⟨#[35]⟩,.string ⟨#[40]⟩,.string ⟨#[61]⟩,.string ⟨#[105,102,32]⟩,.string ⟨#[117,56]⟩,.string ⟨#[38]⟩] 9)):=hD4.alloc _;have hB5:Mill.But R w3 (w4.alloc (.cells #[.string ⟨#[32]⟩,.string ⟨#[10]⟩,.string ⟨#[34]⟩,.string ⟨#[92]⟩,.string ⟨#[48]⟩,.string ⟨#[120]⟩,.string ⟨#[92,52]⟩,.string ⟨#[123]⟩,.string ⟨#[41]⟩,.string ⟨#[59]⟩,.string ⟨#[35]⟩,.string ⟨#[40]⟩,.string ⟨#[61]⟩,.string ⟨#[105,102,32]⟩,.string ⟨#[117,56]⟩,.string ⟨#[38]⟩] 9)):=((Mill.But.of_below (Below.refl _ _).drew).trans hB4).alloc _) | (go_at_call 8;with_reducible refine (pick_D 16 (hDa _) (by omega) (by decide) (by decide)).mono ?_;rintro e w4 ⟨x,rfl,hx,hD5,hB4⟩;have hB5:=(Mill.But.of_below (R:=R) (((Below.refl _ w3).alloc (Nat.le_refl _) _).drew)).trans hB4;obtain ⟨t,ht,hts⟩:=Tk.tab_pick (M:=3) hB4 hR3 (by decide) x (by have h16:x < 16:=(by omega);simpa using h16);have n3:¬ (9223372036854775807 < X.size+t.size):=(by omega);have n4:¬ (9223372036854775807 < X.size+t.size+Y.size):=(by omega)))
    all_goals
      go_wp2
      go_ret
      exact ⟨X++t++Y,rfl,by rw [ByteArray.size_append,ByteArray.size_append];omega,hD5.mono (by omega),(hB2.trans hB3).trans hB5⟩
  · rename_i hlt
    have hw1:wrap64 (i+1)=i+1:=IntWalk.wrap64_in _ (by omega)
    have hw2:IntKind.i64.wrap (i+1)=i+1:=(IntWalk.i64_left _).trans hw1
    have hi2:0≤i+1:=by omega
    have hi3:i+1≤(s.size:Int):=by omega
    obtain ⟨Z,hZ⟩:∃ Z,s.extract (i+1).toNat s.size=Z:=⟨_,rfl⟩
    have hZs:Z.size≤1000000:=by rw [← hZ];exact Nat.le_trans (Tk.cut_le _ _ _) hs
    have n3:¬ (9223372036854775807 < X.size+Z.size):=by omega
    go_quiet (fail)
    go_wp2
    go_ret
    exact ⟨X++Z,rfl,by rw [ByteArray.size_append];omega,(hD3.below (Tk.below_drewN _ (Below.refl _ _))).mono (by omega),(hB2.trans hB3).trans (Mill.But.of_below (Tk.below_drewN _ (Below.refl _ _)))⟩
  · go_ret
    exact ⟨s++Y,rfl,by rw [ByteArray.size_append];omega,hD3.mono (by omega),hB2.trans hB3⟩
  · rename_i hlt
    have hDb:Mill.Dr R p (k+1+1) w w3.drew:=hD3.below (Below.refl _ _).drew
    have hw1:wrap64 (i+1)=i+1:=IntWalk.wrap64_in _ (by omega)
    have hw2:IntKind.i64.wrap (i+1)=i+1:=(IntWalk.i64_left _).trans hw1
    have hi2:0≤i+1:=by omega
    have hi3:i+1≤(s.size:Int):=by omega
    obtain ⟨Z,hZ⟩:∃ Z,s.extract (i+1).toNat s.size=Z:=⟨_,rfl⟩
    have hZs:Z.size≤1000000:=by rw [← hZ];exact Nat.le_trans (Tk.cut_le _ _ _) hs
    go_region_with (first | (go_at_call 8;with_reducible refine (Tk.pickDI 256 hDb b2 (by decide) (by decide)).mono ?_;rintro e w4 ⟨x,rfl,hx,hD4,hB4⟩;have hcv:=Mill.conv_one w4 x hx.1 (by omega);have hw8:IntKind.u8.wrap x=x:=Tk.wrap8 hx;obtain ⟨t,ht,hts⟩:=Tk.one_text x;rw [ht] at hcv;have n3:¬ (9223372036854775807 < X.size+t.size):=(by omega);have n4:¬ (9223372036854775807 < X.size+t.size+Z.size):=(by omega)))
    all_goals
      go_wp2
      go_ret
      exact ⟨X++t++Z,rfl,by rw [ByteArray.size_append,ByteArray.size_append];omega,(hD4.alloc _).mono (by omega),(hB2.trans hB3).trans (((Mill.But.of_below (Below.refl _ _).drew).trans hB4).alloc _)⟩
  · go_ret
    exact ⟨s++Y,rfl,by rw [ByteArray.size_append];omega,hD3.mono (by omega),hB2.trans hB3⟩
  · rename_i hlt
    have hi2:0≤i+x:=by omega
    have hi3:i+x≤(s.size:Int):=by omega
    obtain ⟨Z,hZ⟩:∃ Z,s.extract (i+x).toNat s.size=Z:=⟨_,rfl⟩
    have hZs:Z.size≤1000000:=by rw [← hZ];exact Nat.le_trans (Tk.cut_le _ _ _) hs
    have n3:¬ (9223372036854775807 < X.size+Z.size):=by omega
    go_quiet (fail)
    go_wp2
    go_ret
    exact ⟨X++Z,rfl,by rw [ByteArray.size_append];omega,(hD4.below (Tk.below_drewN _ (Below.refl _ _))).mono (by omega),((hB2.trans hB3).trans hB4).trans (Mill.But.of_below (Tk.below_drewN _ (Below.refl _ _)))⟩
  · go_ret
    exact ⟨s++Y,rfl,by rw [ByteArray.size_append];omega,hD4.mono (by omega),(hB2.trans hB3).trans hB4⟩
  · go_ret
    exact ⟨s++Y,rfl,by rw [ByteArray.size_append];omega,hD3.mono (by omega),hB2.trans hB3⟩
theorem Tk.k16 {k:Int} (_h:0≤k∧k < 16):(k=0∧Tk.Mk)∨(k=1∧Tk.Mk)∨(k=2∧Tk.Mk)∨(k=3∧Tk.Mk)∨(k=4∧Tk.Mk)∨(k=5∧Tk.Mk)∨(k=6∧Tk.Mk)∨(k=7∧Tk.Mk)∨(k=8∧Tk.Mk)∨(k=9∧Tk.Mk)∨(k=10∧Tk.Mk)∨((¬ k=0∧¬ k=1∧¬ k=2∧¬ k=3∧¬ k=4∧¬ k=5∧¬ k=6∧¬ k=7∧¬ k=8∧¬ k=9∧¬ k=10)∧Tk.Mk):=by
 simp only [Tk.Mk,and_true];omega
theorem Tk.type_size (b:Int):(Mill.typeWord b).size≤4:=by
 unfold Mill.typeWord
 repeat' split
 all_goals decide
theorem Tk.built_size (b:Int):(Mill.builtWord b).size≤4:=by
 unfold Mill.builtWord
 by_cases h1:b=1
 ·rw [if_pos h1];decide
 rw [if_neg h1]
 by_cases h2:b=2
 ·rw [if_pos h2];decide
 rw [if_neg h2]
 by_cases h3:b=3
 ·rw [if_pos h3];decide
 rw [if_neg h3]
 by_cases h4:b=4
 ·rw [if_pos h4];decide
 rw [if_neg h4]
 by_cases h5:b=5
 ·rw [if_pos h5];decide
 rw [if_neg h5]
 by_cases h6:b=6
 ·rw [if_pos h6];decide
 rw [if_neg h6]
 by_cases h7:b=7
 ·rw [if_pos h7];decide
 rw [if_neg h7]
 by_cases h8:b=8
 ·rw [if_pos h8];decide
 rw [if_neg h8]
 by_cases h9:b=9
 ·rw [if_pos h9];decide
 rw [if_neg h9]
 by_cases h10:b=10
 ·rw [if_pos h10];decide
 rw [if_neg h10]
 by_cases h11:b=11
 ·rw [if_pos h11];decide
 rw [if_neg h11]
 by_cases h12:b=12
 ·rw [if_pos h12];decide
 rw [if_neg h12]
 decide
theorem Tk.many1 (n:Int) (hn:0≤n∧n < 2) (w:World):Calls Tryz.prog 9 #[.string ⟨#[110]⟩,.int .i64 (30+n)] w fun e w' => ∃ t:ByteArray,e = .returned (.string t)∧t.size≤31∧Below w.heap.size w w':=by
 obtain ⟨m,hm⟩:=Int.eq_ofNat_of_zero_le (show 0≤30+n by omega)
 rw [hm]
 refine (l1Many_any _ m w (by decide) (by omega)).mono ?_
 rintro e w' ⟨t,he,ht,hb⟩
 have e8:(⟨#[110]⟩:ByteArray).size=1:=rfl
 rw [e8] at ht
 exact ⟨t,he,by omega,hb⟩
theorem Tk.and_bd (a b:Int):∃ y,bits BinOp.and IntKind.u64 a b=y∧0≤y∧y < 18446744073709551616:=⟨_,rfl,by have:=(bits_within BinOp.and .u64 a b).1;rw [show IntKind.u64.min=0 by decide] at this;exact this,by have:=(bits_within BinOp.and .u64 a b).2;rw [show IntKind.u64.max=18446744073709551615 by decide] at this;omega⟩
theorem Tk.decimal (y:Int) (y0:0≤y) (y1:y < 18446744073709551616) (w:World):Calls Tryz.prog 22 #[.int .u64 y] w fun e w' => ∃ d:ByteArray,e = .returned (.string d)∧d.size≤20∧Below w.heap.size w w':=by
 refine (Dc.l1Decimal_i y y0 y1 w).mono ?_
 rintro e w' ⟨he,hb⟩
 refine ⟨_,he, ?_,hb⟩
 have:=Dc.decLen20 y.toNat (by omega)
 simpa [ByteArray.size] using this
theorem Tk.two_ok {ty:ByteArray} (h:ty.size≤4):(#[Value.string ty,.string ⟨#[]⟩]:Array Value).toList.all (Mill.strB 4)=true:=by
 simp only [List.all_cons,List.all_nil,Mill.strB,Bool.and_true,Bool.and_eq_true,decide_eq_true_eq]
 exact ⟨h,by decide⟩
theorem Tk.wrc (c:Int) {n M:Int} (h:0≤n∧n < M) (hM:M≤1000) (hc:0≤c∧c≤1000):wrap64 (c+n)=c+n:=IntWalk.wrap64_in _ (by omega)
theorem Tk.quote8 {t:ByteArray} (h:t.size≤8):(Pr.quote t).size≤100:=Nat.le_trans (Pr.quote_size t) (by omega)
theorem Tk.piece_D {w w1:World} {R p k:Nat} (hD:Mill.Dr R p k w w1) (hp:p+k≤5000000000) :
    Calls Tryz.prog 12 #[.pointer (some ⟨R,0,none⟩)] w1 fun e w' => ∃ t:ByteArray,e = .returned (.string t)∧t.size≤100∧Mill.Dr R p (k+10) w w'∧Mill.But R w1 w':=by
  have b0:p+k≤900000000000:=by omega
  have b1:p+(k+1)≤900000000000:=by omega
  have t0:Tk.Mk:=trivial
  go_enter Tryz.func12,Tryz.ntmps12
  go_wp2_with (first
    | (go_at_call 8
       have _t:=t0
       clear t0
       refine (Tk.pickDI 16 hD b0 (by decide) (by decide)).mono ?_
       rintro e w2 ⟨q,rfl,hq,hD2,hB2⟩
       rcases Tk.k16 hq with ⟨rfl,m0⟩ | ⟨rfl,m1⟩ | ⟨rfl,m2⟩ | ⟨rfl,m3⟩ | ⟨rfl,m4⟩ | ⟨rfl,m4⟩ | ⟨rfl,m6⟩ | ⟨rfl,m7⟩ | ⟨rfl,m8⟩ | ⟨rfl,m9⟩ | ⟨rfl,m10⟩ | ⟨⟨n0,n1,n2,n3,n4,n5,n6,n7,n8,n9,n10⟩,m11⟩)
    | (go_at_call 8
       have _t:=m0
       clear m0
       refine (Tk.pickDI 3 hD2 b1 (by decide) (by decide)).mono ?_
       rintro e w3 ⟨x,rfl,hx,hD3,hB3⟩
       have m0a:Tk.Mk:=trivial)
    | (go_at_call 18
       have _t:=m0a
       clear m0a
       refine (Gn.dec_any x hx.1 (by omega) w3).mono ?_
       rintro e w4 ⟨t,rfl,ht,hb4⟩
       have hD4:=hD3.below hb4
       have hB4:=(hB2.trans hB3).trans (Mill.But.of_below hb4)
       have r0:Tk.Mk:=trivial)
    | (go_at_call 8
       have _t:=m1
       clear m1
       refine (Tk.pickDI 10 hD2 b1 (by decide) (by decide)).mono ?_
       rintro e w3 ⟨x,rfl,hx,hD3,hB3⟩
       have hwx:=Tk.wrc 1 hx (by decide) (by decide)
       have m1a:Tk.Mk:=trivial)
    | (go_at_call 19
       have _t:=m1a
       clear m1a
       refine (l1TypeWord_any (1+x) w3).mono ?_
       rintro e w4 ⟨rfl,rfl⟩
       obtain ⟨t,hT⟩:∃ t,Mill.typeWord (1+x)=t:=⟨_,rfl⟩
       have hts2:t.size≤100:=(by rw [← hT];exact Nat.le_trans (Tk.type_size _) (by decide))
       have hB4:=hB2.trans hB3
       have r1:Tk.Mk:=trivial)
    | (go_at_call 20
       have _t:=m2
       refine (l1Plain_any w2).mono ?_
       rintro e w3 ⟨rfl,rfl⟩)
    | (go_at_call 8
       have _t:=m2
       clear m2
       refine (pick_D 13 (hD2.alloc _) (by omega) (by decide) (by decide)).mono ?_
       rintro e w3 ⟨x,rfl,hx,hD3,hB3⟩
       obtain ⟨t,ht,hts⟩:=Mill.tab_pick (M:=8) hB3 hD2.lt (by decide) x (by rw [show Mill.plainCells.size=13 by rfl];omega)
       have hB4:Mill.But R w1 w3:=(hB2.alloc _).trans hB3
       have hts2:t.size≤100:=Nat.le_trans hts (by decide)
       have r1:Tk.Mk:=trivial)
    | (go_at_call 8
       have _t:=m3
       clear m3
       refine (Tk.pickDI 12 hD2 b1 (by decide) (by decide)).mono ?_
       rintro e w3 ⟨x,rfl,hx,hD3,hB3⟩
       have hwx:=Tk.wrc 1 hx (by decide) (by decide)
       have m3a:Tk.Mk:=trivial)
    | (go_at_call 21
       have _t:=m3a
       clear m3a
       refine (l1BuiltWord_any (1+x) w3).mono ?_
       rintro e w4 ⟨rfl,rfl⟩
       obtain ⟨t,hT⟩:∃ t,Mill.builtWord (1+x)=t:=⟨_,rfl⟩
       have hts2:t.size≤100:=(by rw [← hT];exact Nat.le_trans (Tk.built_size _) (by decide))
       have hB4:=hB2.trans hB3
       have r1:Tk.Mk:=trivial)
    | (go_at_call 8
       have _t:=m4
       clear m4
       refine (Tk.pickDI 8 hD2 b1 (by decide) (by decide)).mono ?_
       rintro e w3 ⟨x,rfl,hx,hD3,hB3⟩
       have hwx:=Tk.wrc 3 hx (by decide) (by decide)
       have m4a:Tk.Mk:=trivial)
    | (go_at_call 23
       have _t:=m4a
       clear m4a
       refine (number_D (3+x) hD3 (by omega)).mono ?_
       rintro e w4 ⟨n,rfl,n0,n1,hD4,hB4⟩
       have m4b:Tk.Mk:=trivial)
    | (go_at_call 24
       have _t:=m4b
       clear m4b
       refine (l1Max_any (3+x) w4).mono ?_
       rintro e w5 ⟨rfl,rfl⟩
       obtain ⟨y,hy,y0,y1⟩:=Tk.and_bd (IntKind.u64.wrap n) (Mill.maxOf (3+x))
       have m4c:Tk.Mk:=trivial)
    | (go_at_call 22
       have _t:=m4c
       clear m4c
       refine (Tk.decimal y y0 y1 w4).mono ?_
       rintro e w5 ⟨d,rfl,hd,hb5⟩
       have m4d:Tk.Mk:=trivial)
    | (go_at_call 19
       have _t:=m4d
       clear m4d
       refine (l1TypeWord_any (3+x) w5).mono ?_
       rintro e w6 ⟨rfl,rfl⟩
       obtain ⟨ty,hT⟩:∃ t,Mill.typeWord (3+x)=t:=⟨_,rfl⟩
       have hty:ty.size≤4:=(by rw [← hT];exact Tk.type_size _)
       have hD5:=hD4.below hb5
       have hB5:=((hB2.trans hB3).trans hB4).trans (Mill.But.of_below hb5)
       have m4e:Tk.Mk:=trivial)
    | (go_at_call 8
       have _t:=m4e
       clear m4e
       refine (pick_D 2 (hD5.alloc _) (by omega) (by decide) (by decide)).mono ?_
       rintro e w6 ⟨z,rfl,hz,hD6,hB6⟩
       obtain ⟨t,ht,hts⟩:=Mill.tab_pick (M:=4) hB6 hD5.lt (Tk.two_ok hty) z (by have h9:z < 2:=(by omega);simpa using h9)
       have hB7:Mill.But R w1 w6:=(hB5.alloc _).trans hB6
       have r4:Tk.Mk:=trivial)
    | (go_at_call 8
       have _t:=m6
       clear m6
       refine (pick_D 18 (hD2.alloc _) (by omega) (by decide) (by decide)).mono ?_
       rintro e w3 ⟨x,rfl,hx,hD3,hB3⟩
       obtain ⟨t,ht,hts⟩:=Mill.tab_pick (M:=25) hB3 hD2.lt (by decide) x (by have h9:x < 18:=(by omega);simpa using h9)
       have hB4:Mill.But R w1 w3:=(hB2.alloc _).trans hB3
       have hts2:t.size≤100:=Nat.le_trans hts (by decide)
       have r1:Tk.Mk:=trivial)
    | (go_at_call 25
       have _t:=m7
       clear m7
       refine (text_D hD2 (by omega)).mono ?_
       rintro e w3 ⟨t,rfl,ht,hD3,hB3⟩
       have m7a:Tk.Mk:=trivial)
    | (go_at_call 10
       have _t:=m7a
       clear m7a
       refine (Pr.l1Quote_any t (by omega) w3).mono ?_
       rintro e w4 ⟨rfl,hb4⟩
       have hq8:=Tk.quote8 ht
       have hB4:=(hB2.trans hB3).trans (Mill.But.of_below hb4)
       have hD4:=hD3.below hb4
       have r2:Tk.Mk:=trivial)
    | (go_at_call 8
       have _t:=m8
       clear m8
       refine (pick_D 6 (hD2.alloc _) (by omega) (by decide) (by decide)).mono ?_
       rintro e w3 ⟨x,rfl,hx,hD3,hB3⟩
       obtain ⟨t,ht,hts⟩:=Mill.tab_pick (M:=8) hB3 hD2.lt (by decide) x (by have h9:x < 6:=(by omega);simpa using h9)
       have hB4:Mill.But R w1 w3:=(hB2.alloc _).trans hB3
       have hts2:t.size≤100:=Nat.le_trans hts (by decide)
       have r1:Tk.Mk:=trivial)
    | (go_at_call 8
       have _t:=m9
       clear m9
       refine (pick_D 8 (hD2.alloc _) (by omega) (by decide) (by decide)).mono ?_
       rintro e w3 ⟨x,rfl,hx,hD3,hB3⟩
       obtain ⟨t,ht,hts⟩:=Mill.tab_pick (M:=20) hB3 hD2.lt (by decide) x (by have h9:x < 8:=(by omega);simpa using h9)
       have hB4:Mill.But R w1 w3:=(hB2.alloc _).trans hB3
       have hts2:t.size≤100:=Nat.le_trans hts (by decide)
       have r1:Tk.Mk:=trivial)
    | (go_at_call 8
       have _t:=m10
       clear m10
       refine (Tk.pickDI 2 hD2 b1 (by decide) (by decide)).mono ?_
       rintro e w3 ⟨x,rfl,hx,hD3,hB3⟩
       have hwx:=Tk.wrc 30 hx (by decide) (by decide)
       have m10a:Tk.Mk:=trivial)
    | (go_at_call 9
       have _t:=m10a
       clear m10a
       refine (Tk.many1 x hx w3).mono ?_
       rintro e w4 ⟨t,rfl,ht,hb4⟩
       have hD4:=hD3.below hb4
       have hB4:=(hB2.trans hB3).trans (Mill.But.of_below hb4)
       have r3:Tk.Mk:=trivial)
    | (go_at_call 26
       have _t:=m11
       refine (l1Marks_any w2).mono ?_
       rintro e w3 ⟨rfl,rfl⟩)
    | (go_at_call 8
       have _t:=m11
       clear m11
       refine (pick_D 28 (hD2.alloc _) (by omega) (by decide) (by decide)).mono ?_
       rintro e w3 ⟨x,rfl,hx,hD3,hB3⟩
       obtain ⟨t,ht,hts⟩:=Mill.tab_pick (M:=3) hB3 hD2.lt (by decide) x (by rw [show Mill.marksCells.size=28 by rfl];omega)
       have hB4:Mill.But R w1 w3:=(hB2.alloc _).trans hB3
       have hts2:t.size≤100:=Nat.le_trans hts (by decide)
       have r1:Tk.Mk:=trivial))
  all_goals first
    | (have _t:=r0;go_ret;exact ⟨_,rfl,by rw [ByteArray.size_append];exact Nat.le_trans (Nat.add_le_add (Nat.le_refl 4) ht) (by decide),hD4.mono (by omega),hB4⟩)
    | (have _t:=r1;go_ret;exact ⟨t,rfl,hts2,hD3.mono (by omega),hB4⟩)
    | (have _t:=r2;go_ret;exact ⟨_,rfl,hq8,hD4.mono (by omega),hB4⟩)
    | (have _t:=r3;go_ret;exact ⟨t,rfl,Nat.le_trans ht (by decide),hD4.mono (by omega),hB4⟩)
    | (have _t:=r4;go_ret;exact ⟨_,rfl,by rw [ByteArray.size_append];exact Nat.le_trans (Nat.add_le_add hd hts) (by decide),hD6.mono (by omega),hB7⟩)
end Go.Proofs.YtfoimmnlojjfbaaGreatDoor
