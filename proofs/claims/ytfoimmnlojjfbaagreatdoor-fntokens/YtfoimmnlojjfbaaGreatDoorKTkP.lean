import Derived.Test.YtfoimmnlojjfbaaGreatDoorKTkK
import Derived.Test.YtfoimmnlojjfbaaGreatDoorKTkN0
import Derived.Test.YtfoimmnlojjfbaaGreatDoorKTkN1
import Derived.Test.YtfoimmnlojjfbaaGreatDoorKTkN6
import Derived.Test.YtfoimmnlojjfbaaGreatDoorKTkN8
import Derived.Test.YtfoimmnlojjfbaaGreatDoorKTkN9
import Derived.Test.YtfoimmnlojjfbaaGreatDoorKTkN10
import Derived.Test.YtfoimmnlojjfbaaGreatDoorKTkN11
import Derived.Test.YtfoimmnlojjfbaaGreatDoorKTkNa
import Derived.Deep.CutBlock
import Derived.Deep.RegionHeld3
import Derived.Test.YtfoimmnlojjfbaaGreatDoorKTkD
set_option maxRecDepth 100000
set_option maxHeartbeats 4000000
namespace Go.Proofs.YtfoimmnlojjfbaaGreatDoor
open Go.RowKit
def Tk.SpoilIs : Prop := ∀ (R P A n0 c0:Nat) (w w0:World) (a0:Option Addr),Gn.Dw R P w0 w→P≤800000000→Gn.Row A w (.slice a0 n0 c0) 300000000→Calls Tryz.prog 63 #[.pointer (some ⟨R,0,none⟩),.agg #[.slice a0 n0 c0]] w (Tk.WPost R (P+5) 300000000 w0 w)
theorem Tk.k40 {k:Int} (h:0≤k∧k < 40):(k=0∧Tk.Mk)∨((¬ k=0∧k < 4)∧Tk.Mk)∨((¬ k=0∧¬ k < 4)∧Tk.Mk):=by
 simp only [Tk.Mk,and_true];omega
theorem Tk.any_any (hS:Tk.SpoilIs) {R P:Nat} {w w0:World} (hD:Gn.Dw R P w0 w) (hP:P≤200000000) (hP2:200≤P):Calls Tryz.prog 43 #[.pointer (some ⟨R,0,none⟩)] w (Tk.WPost R (P+200000010) 300000000 w0 w):=by
  obtain ⟨V0,hV0⟩:∃ V,w.alloc (.cells #[.slice none 0 0] 73)=V:=⟨_,rfl⟩
  have hs0:V0.heap.size=w.heap.size+1:=by rw [← hV0];simp
  have HV0:Hid (w.alloc (.cells #[.slice none 0 0] 73)=V0):=hV0
  have HS:Hid Tk.SpoilIs:=hS
  clear hS
  have hd0:Gn.Dw R P w0 V0:=by rw [← hV0];exact hD.below (Tk.up1 w _)
  have hR:R < w.heap.size:=hD.lt
  have hw0:w0.heap.size≤w.heap.size:=hD.2.size
  have t0:Tk.Mk:=trivial
  go_enter Tryz.func43,Tryz.ntmps43
  go_wp2_with (first
    | (go_at_call 8
       have _t:=t0
       clear t0
       refine (Gn.pickW 40 hd0 (by omega) (by decide) (by decide)).mono ?_
       rintro e w1 ⟨k,rfl,hk,hd1,hf1⟩
       have hz1:w.heap.size+1≤w1.heap.size:=(by have:=hf1.size;omega)
       rcases Tk.k40 hk with ⟨rfl,m0⟩ | ⟨⟨n1,n2⟩,m1⟩ | ⟨⟨n1,n2⟩,m2⟩)
    | (go_at_call 62
       have _t:=m0
       clear m0
       refine (Tk.edge_any hd1 (by omega)).mono ?_
       rintro e w5 ⟨a5,n5,c5,rfl,hr5',hd5',hf5'⟩
       have hr5:=hr5'.mono (K':=300000000) (Nat.le_refl _) (by decide)
       have hd5:=hd5'.mono (P':=P+200000010) (by omega)
       have hA5:w.heap.size≤w1.heap.size:=(by omega)
       have hf5:Gn.Fw R (w.alloc (.cells #[.slice none 0 0] 73)) w5:=(by rw [HV0.out];exact hf1.trans hf5')
       obtain ⟨-,x0,x1⟩:=Tk.tree_cellW hf5)
    | (go_at_call 64
       have _t:=m1
       clear m1
       refine (Gn.programW hd1 (by omega) 60 (by omega)).mono ?_
       rintro e w3 ⟨a3,n3,c3,rfl,hr3,hd3,hf3⟩
       have m1a:Tk.Mk:=trivial)
    | (go_at_call 63
       have _t:=m1a
       clear m1a
       refine (HS.out R _ _ _ _ w3 w0 _ hd3 (by omega) hr3).mono ?_
       rintro e w5 ⟨a5,n5,c5,rfl,hr5,hd5',hf5'⟩
       have hd5:=hd5'.mono (P':=P+200000010) (by omega)
       have hA5:w.heap.size≤w3.heap.size:=(by have:=hf3.size;omega)
       have hf5:Gn.Fw R (w.alloc (.cells #[.slice none 0 0] 73)) w5:=(by rw [HV0.out];exact (hf1.trans hf3).trans hf5')
       obtain ⟨-,x0,x1⟩:=Tk.tree_cellW hf5)
    | (go_at_call 8
       have _t:=m2
       clear m2
       refine (Gn.pickW 120 hd1 (by omega) (by decide) (by decide)).mono ?_
       rintro e w3 ⟨x,rfl,hx,hd3,hf3⟩
       have hwx:wrap64 (20+x)=20+x:=IntWalk.wrap64_in _ (by omega)
       have m2a:Tk.Mk:=trivial)
    | (go_at_call 64
       have _t:=m2a
       clear m2a
       refine (Gn.programW hd3 (by omega) (20+x) (by omega)).mono ?_
       rintro e w5 ⟨a5,n5,c5,rfl,hr5,hd5',hf5'⟩
       have hd5:=hd5'.mono (P':=P+200000010) (by omega)
       have hA5:w.heap.size≤w3.heap.size:=(by have:=hf3.size;omega)
       have hf5:Gn.Fw R (w.alloc (.cells #[.slice none 0 0] 73)) w5:=(by rw [HV0.out];exact (hf1.trans hf3).trans hf5')
       obtain ⟨-,x0,x1⟩:=Tk.tree_cellW hf5))
  all_goals exact bodyPost_ret (v:=.agg #[.slice a5 n5 c5]) (by simp [results,Tryz.results43,go_sem,x0]) rfl (Tk.tree_endW hr5 hA5 hd5 hf5 hR hw0)
def Tk.LooseIs : Prop := ∀ (R P:Nat) (w w0:World) (s:ByteArray),Gn.Dw R P w0 w→P≤700000000→s.size≤12000→Calls Tryz.prog 44 #[.pointer (some ⟨R,0,none⟩),.string s] w fun e w' => ∃ t:ByteArray,e = .returned (.string t)∧t.size≤1000000∧Gn.Dw R (P+100000) w0 w'∧Gn.Fw R w w'
theorem Tk.src_any (hS:Tk.SpoilIs) (hL:Tk.LooseIs) {R P:Nat} {w w0:World} (hD:Gn.Dw R P w0 w) (hP:P≤200000000) (hP2:200≤P):Calls Tryz.prog 16 #[.pointer (some ⟨R,0,none⟩)] w fun e w' => ∃ t:ByteArray,e = .returned (.string t)∧t.size≤1000000∧Gn.Dw R (P+300000000) w0 w'∧Gn.Fw R w w':=by
  have HA:Hid (Calls Tryz.prog 43 #[.pointer (some ⟨R,0,none⟩)] w (Tk.WPost R (P+200000010) 300000000 w0 w)):=Tk.any_any hS hD hP hP2
  have HL:Hid Tk.LooseIs:=hL
  clear hS hL
  have t0:Tk.Mk:=trivial
  go_enter Tryz.func16,Tryz.ntmps16
  go_wp2_with (first
    | (go_at_call 43
       refine HA.out.mono ?_
       rintro e w1 ⟨a1,n1,c1,rfl,hr1,hd1,hf1⟩)
    | (go_at_call 42
       refine (Gn.print_any hr1).mono ?_
       rintro e w2 ⟨t,rfl,ht,hb2⟩
       have hd2:=hd1.below hb2
       have hf2:Gn.Fw R w w2:=hf1.trans (Gn.Fw.of_below hb2))
    | (go_at_call 8
       have _t:=t0
       clear t0
       refine (Gn.pickW 3 hd2 (by omega) (by decide) (by decide)).mono ?_
       rintro e w3 ⟨x,rfl,hx,hd3,hf3⟩)
    | (go_at_call 44
       refine (HL.out R _ w3 w0 t hd3 (by omega) ht).mono ?_
       rintro e w4 ⟨t2,rfl,ht2,hd4,hf4⟩
       have r1:Tk.Mk:=trivial))
  all_goals first
    | (have _t:=r1;go_ret;exact ⟨t2,rfl,ht2,hd4.mono (by omega),(hf2.trans hf3).trans hf4⟩)
    | (go_ret;exact ⟨t,rfl,by omega,hd3.mono (by omega),hf2.trans hf3⟩)
theorem Tk.spoil_any {R P A n0 c0:Nat} {w w0:World} {a0:Option Addr} (hD:Gn.Dw R P w0 w) (hP:P≤800000000) (hrow:Gn.Row A w (.slice a0 n0 c0) 300000000):Calls Tryz.prog 63 #[.pointer (some ⟨R,0,none⟩),.agg #[.slice a0 n0 c0]] w (Tk.WPost R (P+5) 300000000 w0 w):=by
  obtain ⟨V1,hV1⟩:∃ V,(w.alloc (.cells #[.slice a0 n0 c0] 73)).alloc (.cells #[.slice none 0 0] 73)=V:=⟨_,rfl⟩
  have hs1:V1.heap.size=w.heap.size+1+1:=by rw [← hV1];simp
  have hbV:Below w.heap.size w V1:=by rw [← hV1];exact Tk.bl (Tk.up1 w _) (Tk.up1 _ _) (by simp)
  have hbox:∀ o,(V1.alloc o).cell? ⟨w.heap.size,0,none⟩=some (.slice a0 n0 c0):=fun o=>by
    have h1:V1.heap[w.heap.size]? = some (.cells #[.slice a0 n0 c0] 73):=by rw [← hV1,(Tk.up1 (w.alloc (.cells #[.slice a0 n0 c0] 73)) _).block w.heap.size (by simp)];exact World.alloc_heap_new w _
    rw [(Tk.up1 V1 o).cell (p:=⟨w.heap.size,0,none⟩) (by simp only;omega),Lib.cell_of_heap h1];rfl
  have hres:V1.heap[w.heap.size+1]? = some (.cells #[.slice none 0 0] 73):=by
    have:=World.alloc_heap_new (w.alloc (.cells #[.slice a0 n0 c0] 73)) (.cells #[.slice none 0 0] 73)
    rw [hV1] at this;simpa using this
  have hE:Gn.Row (w.heap.size+1+1) (V1.alloc (.cells #[] 106)) (.slice (some ⟨w.heap.size+1+1,0,none⟩) 0 0) 0:=by have:=Tk.empty_row V1;rw [hs1] at this;exact this
  have hBd:Gn.Row A (V1.alloc (.cells #[] 106)) (.slice a0 n0 c0) 300000000:=Tk.Row_below (Tk.Row_below hrow hbV) (Tk.up1 V1 _)
  have hd0:Gn.Dw R P w0 V1:=hD.below hbV
  have hR:R < w.heap.size∧w0.heap.size≤w.heap.size:=⟨hD.lt,hD.2.size⟩
  have hf0:Gn.Fw R w V1:=Gn.Fw.of_below hbV
  have hn0:=Tk.Row_len hrow
  have t0:Tk.Mk:=trivial
  clear hrow
  go_enter Tryz.func63,Tryz.ntmps63
  go_upto_block 0 with (first
    | (at_builtin
       have _t:=t0
       clear t0
       refine Tk.wp_rows rfl _ _ rfl rfl rfl hE hBd (by simp [hs1]) (by decide) ?_
       intro a1 n1 c1 w1 hr1 hn1 hf1 hy1
       have hnn:n1≤300000000:=(by omega)
       clear hn1
       have hb1:Below V1.heap.size V1 w1:=hf1 V1 (by omega) (Tk.up1 V1 _)
       have hb2:Below V1.heap.size V1 (w1.alloc (.cells #[.slice a1 n1 c1] 73)):=Tk.bl hb1 (Tk.up1 w1 _) hb1.size
       have HR1:Hid (Gn.Row w.heap.size (w1.alloc (.cells #[.slice a1 n1 c1] 73)) (.slice a1 n1 c1) 300000000):=(Tk.Row_below hr1 (Tk.up1 w1 _)).mono (by omega) (by decide)
       have HD1:Hid (Gn.Dw R P w0 (w1.alloc (.cells #[.slice a1 n1 c1] 73))):=hd0.below hb2
       have HF1:Hid (Gn.Fw R w (w1.alloc (.cells #[.slice a1 n1 c1] 73))):=hf0.trans (Gn.Fw.of_below hb2)
       have HO1:Hid ((w1.alloc (.cells #[.slice a1 n1 c1] 73)).heap[w1.heap.size]? = some (.cells #[.slice a1 n1 c1] 73)):=World.alloc_heap_new w1 _
       have HS1:Hid ((w1.alloc (.cells #[.slice a1 n1 c1] 73)).heap[w.heap.size+1]? = some (.cells #[.slice none 0 0] 73)):=(by have:=(hb2.block (w.heap.size+1) (by omega)).trans hres;exact this)
       have hz1:w.heap.size+1+1≤w1.heap.size:=(by have:=hb1.size;omega)
       have o1:(w1.alloc (.cells #[.slice a1 n1 c1] 73)).cell? ⟨w1.heap.size,0,none⟩=some (.slice a1 n1 c1):=(by rw [Lib.cell_of_heap HO1.out];rfl)
       have q1:(w1.alloc (.cells #[.slice a1 n1 c1] 73)).cell? ⟨w.heap.size+1,0,none⟩=some (.slice none 0 0)∧(w1.alloc (.cells #[.slice a1 n1 c1] 73)).frozen? ⟨w.heap.size+1,0,none⟩=false:=(by rw [Lib.cell_of_heap HS1.out];exact ⟨rfl,by simp [World.frozen?,HS1.out]⟩)
       obtain ⟨q1,q2⟩:=q1
       clear hE hBd hf1 hy1 hr1 hb1 hb2 hd0 hf0 hres
       have t1:Tk.Mk:=trivial)
    | (go_at_call 8
       have _t:=t1
       clear t1
       refine (Gn.pickW 256 HD1.out (by omega) (by decide) (by decide)).mono ?_
       rintro e w2 ⟨v1,rfl,hv1,hd2,hf2⟩
       have hw1:wrap64 (v1 * 256)=v1 * 256:=IntWalk.wrap64_in _ (by omega)
       have t2:Tk.Mk:=trivial)
    | (go_at_call 8
       have _t:=t2
       clear t2
       refine (Gn.pickW 256 hd2 (by omega) (by decide) (by decide)).mono ?_
       rintro e w3 ⟨v2,rfl,hv2,hd3,hf3⟩
       have hw2:wrap64 (v1 * 256+v2)=v1 * 256+v2:=IntWalk.wrap64_in _ (by omega)
       have hnb:((n1:Int) == 0)=false:=(by assumption)
       have hnz:n1≠0:=(by simpa using hnb)
       have hnz2:¬ ((n1:Int)=0):=(by omega)
       obtain ⟨k,hk1,hk2⟩:∃ k:Nat,(v1 * 256+v2) % (n1:Int)=(k:Int)∧k < n1:=⟨((v1 * 256+v2) % (n1:Int)).toNat,(by have:=Int.emod_nonneg (v1 * 256+v2) hnz2;omega),(by have:=Int.emod_nonneg (v1 * 256+v2) hnz2;have:=Int.emod_lt_of_pos (v1 * 256+v2) (show (0:Int) < n1 by omega);omega)⟩
       obtain ⟨g,rfl⟩:=Tk.Row_some HR1.out hnz
       have HF3:Hid (Gn.Fw R (w1.alloc (.cells #[.slice (some ⟨g,0,none⟩) n1 c1] 73)) w3):=hf2.trans hf3
       have HR3:=HR1.out.fw HF3.out
       have HO3:=HF3.out.blk HO1.out (by decide)
       have HS3:=HF3.out.blk HS1.out (by decide)
       have o3:w3.cell? ⟨w1.heap.size,0,none⟩=some (.slice (some ⟨g,0,none⟩) n1 c1):=(by rw [Lib.cell_of_heap HO3];rfl)
       obtain ⟨d,hdt,⟨y0,y1,y2,y3,y4,y5⟩,hfz⟩:=Tk.Row_cells HR3 hk2
       have HSP:Hid (Tk.Sp R (P+1+1) w0 w (w3.alloc (.cells #[.int .i64 d.kind,.int .i64 d.op,.int .i64 d.type,.int .i64 d.n,.string d.text,.int .i64 d.kids] 106)) (w.heap.size+1) w1.heap.size w3.heap.size g n1 c1):=Tk.sp_new HF1.out HF3.out hd3 HR3 HO3 HS3 d hdt (by omega) hR ⟨by omega,by omega⟩
       clear HR1 HD1 HF1 HO1 HS1 o1 q1 q2 hd2 hf2 hd3 hf3 HF3 HR3 HO3 HS3
       have t3:Tk.Mk:=trivial)
    | (go_at_call 8
       have _t:=t3
       clear t3
       refine (Gn.pickW 14 HSP.out.dw (by omega) (by decide) (by decide)).mono ?_
       rintro e w4 ⟨q,rfl,hq,hd4,hf4⟩
       have HSP4:Hid (Tk.Sp R (P+1+1+1) w0 w w4 (w.heap.size+1) w1.heap.size w3.heap.size g n1 c1):=HSP.out.draw hd4 hf4
       clear HSP hd4 hf4 y0 y1 y2 y3 y4 y5 hfz o3
       have t4:Tk.Mk:=trivial))
  · exact bodyPost_ret (v:=.agg #[.slice a1 n1 c1]) (by simp [results,Tryz.results63,go_sem,q1]) rfl (Tk.row_end HR1.out HD1.out HF1.out HS1.out hR (by omega) (by omega))
  · rcases Tk.k14 hq with ⟨rfl,m0⟩ | ⟨rfl,m1⟩ | ⟨rfl,m2⟩ | ⟨rfl,m3⟩ | ⟨rfl,m4⟩ | ⟨rfl,m5⟩ | ⟨rfl,m6⟩ | ⟨rfl,m7⟩ | ⟨rfl,m8⟩ | ⟨rfl,m9⟩ | ⟨rfl,m10⟩ | ⟨rfl,m11⟩ | ⟨rfl,m12⟩ | ⟨rfl,m13⟩
    · exact Tk.spoil_0 HSP4 hP hnn hk2 (by assumption)
    · exact Tk.spoil_1 HSP4 hP hnn hk2 (by assumption)
    · exact Tk.spoil_2 HSP4 hP hnn hk2 (by assumption)
    · exact Tk.spoil_3 HSP4 hP hnn hk2 (by assumption)
    · exact Tk.spoil_4 HSP4 hP hnn hk2 (by assumption)
    · exact Tk.spoil_5 HSP4 hP hnn hk2 (by assumption)
    · exact Tk.spoil_6 HSP4 hP hnn hk2 (by assumption)
    · exact Tk.spoil_7 HSP4 hP hnn hk2 (by assumption)
    · exact Tk.spoil_8 HSP4 hP hnn hk2 (by assumption)
    · exact Tk.spoil_9 HSP4 hP hnn hk2 (by assumption)
    · exact Tk.spoil_10 HSP4 hP hnn hk2 (by assumption)
    · exact Tk.spoil_11 HSP4 hP hnn hk2 (by assumption)
    · exact Tk.spoil_12 HSP4 hP hnn hk2 (by assumption)
    · exact Tk.spoil_13 HSP4 hP hnn hk2 (by assumption)
theorem Tk.spoil_is : Tk.SpoilIs:=fun _ _ _ _ _ _ _ _ h1 h2 h3=>Tk.spoil_any h1 h2 h3
theorem Tk.many_s (s:ByteArray) (hs:s.size≤2) (n:Int) (hn:0≤n∧n≤100000) (w:World):Calls Tryz.prog 9 #[.string s,.int .i64 n] w fun e w' => ∃ t:ByteArray,e = .returned (.string t)∧t.size≤200000∧Below w.heap.size w w':=by
 obtain ⟨m,rfl⟩:=Int.eq_ofNat_of_zero_le hn.1
 refine (l1Many_any s m w (by omega) (by omega)).mono ?_
 rintro e w' ⟨t,he,ht,hb⟩
 have:=Nat.mul_le_mul_right m hs
 exact ⟨t,he,by omega,hb⟩
theorem Tk.many_neg (s:ByteArray) (n:Int) (hn:n < 0) (w:World):Calls Tryz.prog 9 #[.string s,.int .i64 n] w fun e w' => ∃ t:ByteArray,e = .returned (.string t)∧t.size≤200000∧Below w.heap.size w w':=by
 have hd:¬ 0 < n:=by omega
 go_enter Tryz.func9,Tryz.ntmps9
 go_wp2_with fail
 go_loopw [0,1,5] (fun t3 t4 t5 wr=>t5 = .string ⟨#[]⟩∧t4 = .int .i64 n∧t3 = .string s∧wr=w) (fun _ _ _ _=>0)
 case atStart=>exact ⟨rfl,rfl,rfl,rfl⟩
 case round =>
  obtain ⟨rfl,rfl,rfl,rfl⟩:=hrel
  go_wp2_with fail
  go_ret
  exact ⟨_,rfl,by decide,Below.refl _ _⟩
theorem Tk.many_i (s:ByteArray) (hs:s.size≤2) (n:Int) (hn:n≤100000) (w:World):Calls Tryz.prog 9 #[.string s,.int .i64 n] w fun e w' => ∃ t:ByteArray,e = .returned (.string t)∧t.size≤200000∧Below w.heap.size w w':=by
 by_cases h:n < 0
 ·exact Tk.many_neg s n h w
 ·exact Tk.many_s s hs n (by omega) w
theorem Tk.below_fw {w W W':World} (h:Below w.heap.size w W) (hf:Gn.Fw w.heap.size W W'):Below w.heap.size w W':=⟨hf.os.trans h.os,hf.tape.trans h.tape,hf.output.trans h.output,Nat.le_trans h.size hf.size,fun k hk=>(hf.keep k (Nat.lt_of_lt_of_le hk h.size) (.inl hk)).trans (h.block k hk)⟩
theorem Tk.cat5 {a b t u d:ByteArray} (ht:t.size≤200000) (hu:u.size≤200000) (ha:a.size≤100) (hb:b.size≤100) (hd:d.size≤100):(a++t++b++u++d).size≤3000000:=by
 rw [ByteArray.size_append,ByteArray.size_append,ByteArray.size_append,ByteArray.size_append];omega
theorem Tk.k30 {k:Int} (_h:0≤k∧k < 30):(k=0∧Tk.Mk)∨(k=1∧Tk.Mk)∨(k=2∧Tk.Mk)∨((¬ k=0∧¬ k=1∧¬ k=2)∧Tk.Mk):=by
 simp only [Tk.Mk,and_true];omega
theorem Tk.bendW {R P:Nat} {w w1:World} (s:ByteArray) (hs:s.size≤1000000) (h:Gn.Dw R P w w1) (hP:P≤900000000) :
  Calls Tryz.prog 17 #[.pointer (some ⟨R,0,none⟩),.string s] w1 fun e w' => ∃ t:ByteArray,e = .returned (.string t)∧t.size≤2000020∧Gn.Dw R (P+3) w w'∧Gn.Fw R w1 w':=by
 obtain ⟨⟨p,hp,hr⟩,hf⟩:=h
 refine (Tk.bend_D s hs (Gn.Dr0 hr) (by omega)).mono ?_
 rintro e w' ⟨t,he,ht,hD,hB⟩
 exact ⟨t,he,ht,(Gn.Dw.of_dr ⟨⟨p,hp,hr⟩,hf⟩ hr hp hD).mono (by omega),Gn.Fw.of_but hr hB⟩
theorem Tk.drawParse (hS:Tk.SpoilIs) (hL:Tk.LooseIs) (w:World) (v:Value) (n:Nat) (hB:Mill.Bytes w w.heap.size v n) (hc:∀ a m c,v = .slice a m c→m≤c) (hn:n≤1048576) :
    Calls Tryz.prog 11 #[v] w fun e w' => ∃ t:ByteArray,e = .returned (.string t)∧t.size≤3000000∧Below w.heap.size w w':=by
  have HO:Hid (Calls Tryz.prog 7 #[v] w fun e w'=>e = .returned (.pointer (some ⟨w.heap.size,0,none⟩))∧Mill.Rd w' w.heap.size 0∧Below w.heap.size w w'):=l1Open_any w v n hB hc hn
  have HS:Hid (∀ (R P:Nat) (w w0:World),Gn.Dw R P w0 w→P≤200000000→200≤P→Calls Tryz.prog 16 #[.pointer (some ⟨R,0,none⟩)] w fun e w' => ∃ t:ByteArray,e = .returned (.string t)∧t.size≤1000000∧Gn.Dw R (P+300000000) w0 w'∧Gn.Fw R w w'):=fun R P w w0 h1 h2 h3=>Tk.src_any hS hL h1 h2 h3
  clear hS hL hB hc
  have t0:Tk.Mk:=trivial
  go_enter Tryz.func11,Tryz.ntmps11
  go_wp2_with (first
    | (go_at_call 7
       refine HO.out.mono ?_
       rintro e w1 ⟨rfl,hr1,hb1⟩
       have hd1:Gn.Dw w.heap.size 1000 w1 w1:=Gn.Dw.refl hr1 (by omega))
    | (go_at_call 8
       have _t:=t0
       clear t0
       refine (Gn.pickW 30 hd1 (by decide) (by decide) (by decide)).mono ?_
       rintro e w2 ⟨k,rfl,hk,hd2,hf2⟩
       rcases Tk.k30 hk with ⟨rfl,m0⟩ | ⟨rfl,m1⟩ | ⟨rfl,m2⟩ | ⟨⟨n0,n1,n2⟩,m3⟩)
    | (go_at_call 9
       have _t:=m0
       clear m0
       refine (Tk.many_i _ (by decide) 900 (by decide) w2).mono ?_
       rintro e w3 ⟨t3,rfl,ht3,hb3⟩
       have m0a:Tk.Mk:=trivial)
    | (go_at_call 9
       have _t:=m0a
       clear m0a
       refine (Tk.many_i _ (by decide) 900 (by decide) w3).mono ?_
       rintro e w4 ⟨t4,rfl,ht4,hb4⟩
       have r0:Tk.Mk:=trivial)
    | (go_at_call 8
       have _t:=m1
       clear m1
       refine (Gn.pickWN 16 (hd2.below (Tk.up1 w2 _)) (by decide) (by decide) (by decide)).mono ?_
       rintro e w3 ⟨x,rfl,hx,hd3,hf3⟩
       obtain ⟨z,hz,hzs⟩:=Tk.tab_str (M:=100) (hf3.blk (World.alloc_heap_new w2 _) (by decide)) (by decide) x (by have h9:x < 16:=(by omega);simpa using h9)
       have r1:Tk.Mk:=trivial)
    | (go_at_call 16
       have _t:=m2
       clear m2
       refine (HS.out _ _ w2 w1 hd2 (by decide) (by decide)).mono ?_
       rintro e w3 ⟨s,rfl,hs,hd3,hf3⟩
       have hw1:wrap64 (12000 - (s.size:Int))=12000 - (s.size:Int):=IntWalk.wrap64_in _ (by omega)
       have m2a:Tk.Mk:=trivial)
    | (go_at_call 8
       have _t:=m2a
       clear m2a
       refine (Gn.pickW 2 hd3 (by decide) (by decide) (by decide)).mono ?_
       rintro e w4 ⟨x,rfl,hx,hd4,hf4⟩
       have hw2:wrap64 (12000 - (s.size:Int)+x)=12000 - (s.size:Int)+x:=IntWalk.wrap64_in _ (by omega)
       have m2b:Tk.Mk:=trivial)
    | (go_at_call 9
       have _t:=m2b
       clear m2b
       refine (Tk.many_i _ (by decide) _ (by omega) w4).mono ?_
       rintro e w5 ⟨t5,rfl,ht5,hb5⟩
       have r2:Tk.Mk:=trivial)
    | (go_at_call 16
       have _t:=m3
       clear m3
       refine (HS.out _ _ w2 w1 hd2 (by decide) (by decide)).mono ?_
       rintro e w3 ⟨s,rfl,hs,hd3,hf3⟩
       have m3a:Tk.Mk:=trivial)
    | (go_at_call 8
       have _t:=m3a
       clear m3a
       refine (Gn.pickW 2 hd3 (by decide) (by decide) (by decide)).mono ?_
       rintro e w4 ⟨x,rfl,hx,hd4,hf4⟩
       have r3:Tk.Mk:=trivial)
    | (go_at_call 17
       have _t:=r3
       clear r3
       refine (Tk.bendW s hs hd4 (by decide)).mono ?_
       rintro e w5 ⟨t5,rfl,ht5,hd5,hf5⟩
       have r4:Tk.Mk:=trivial))
  all_goals first
    | (have _t:=r0;go_ret;exact ⟨_,rfl,Tk.cat5 ht3 ht4 (by decide) (by decide) (by decide),Tk.below_fw hb1 ((hd2.2.trans (Gn.Fw.of_below hb3)).trans (Gn.Fw.of_below hb4))⟩)
    | (have _t:=r1;go_ret;exact ⟨z,rfl,Nat.le_trans hzs (by decide),Tk.below_fw hb1 hd3.2⟩)
    | (have _t:=r2;go_ret;exact ⟨_,rfl,by rw [ByteArray.size_append];exact Nat.le_trans (Nat.add_le_add hs ht5) (by decide),Tk.below_fw hb1 (hd4.2.trans (Gn.Fw.of_below hb5))⟩)
    | (have _t:=r4;go_ret;exact ⟨t5,rfl,Nat.le_trans ht5 (by decide),Tk.below_fw hb1 hd5.2⟩)
    | (have _t:=r3;go_ret;exact ⟨s,rfl,Nat.le_trans hs (by decide),Tk.below_fw hb1 hd4.2⟩)
end Go.Proofs.YtfoimmnlojjfbaaGreatDoor
