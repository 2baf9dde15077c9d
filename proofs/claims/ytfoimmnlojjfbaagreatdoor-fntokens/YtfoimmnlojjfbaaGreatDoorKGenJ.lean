import Derived.Test.YtfoimmnlojjfbaaGreatDoorKTk
import Derived.Test.YtfoimmnlojjfbaaGreatDoorKGenI
set_option maxRecDepth 100000
set_option maxHeartbeats 4000000
namespace Go.Proofs.YtfoimmnlojjfbaaGreatDoor
open Go.RowKit
theorem Gn.textG_any {B g R P d:Nat} {w:World} {nv:Value} {nl:List (ByteArray × Int)} {fv:Value} {F:List Gn.Sg} {ret loops count size:Int} (HE0:Hid (Gn.ExprIs B g R 0)) (HE:Hid (Gn.ExprIs B g R d)) (h:Gn.St B g R P w nv nl fv F ret loops count size) (hP:P+4 * Gn.eb d+50≤700000000) :
  Calls Tryz.prog 112 #[.pointer (some ⟨g,0,none⟩),.int .i64 ((d:Int)+1)] w (Gn.XPost B g R (P+4 * Gn.eb d+50) (4 * Gn.eb d+50) w nv nl fv F ret loops count):=by
 have HS:Hid (Gn.St B g R P w nv nl fv F ret loops count size):=h
 have hep:=Gn.eb_pos d
 have g0:=h.cells.1
 have hdb:d≤700000000:=by
  have:d < 5 ^ d:=Nat.lt_pow_self (by omega)
  unfold Gn.eb at hP;omega
 clear h
 have hwd:wrap64 ((d:Int)+1 - 1)=(d:Int):=by rw [show (d:Int)+1 - 1=(d:Int) by omega];exact IntWalk.wrap64_in _ (by omega)
 have hwd2:(d:Int)+1 - 1=(d:Int):=by omega
 go_enter Tryz.func112,Tryz.ntmps112
 go_wp2_with fail
 refine (Gn.pick_any HS.out 14 (by omega) (by omega) (by omega)).mono ?_
 rintro e w1 ⟨v,rfl,hv,hs1,hf1⟩
 have g1:=hs1.cells.1
 have hz1:=hf1.size
 clear g0
 have hd:v=0∨v=1∨v=2∨v=3∨v=4∨v=5∨v=6∨v=7∨v=8∨v=9∨v=10∨11≤v:=by omega
 rcases hd with rfl | rfl | rfl | rfl | rfl | rfl | rfl | rfl | rfl | rfl | rfl | hv11
 ·go_wp2_with fail
  refine (HE.out _ w1 nv nl _ F ret loops count size 2 hs1 (by omega)).mono ?_
  rintro e wx1 ⟨ax1,nx1,cx1,szx1,rfl,hrx1,hsx1,hfx1⟩
  have qx1:=hsx1.cells.1
  have hzx1:=hfx1.size
  go_wp2_with fail
  refine (HE.out _ wx1 nv nl _ F ret loops count szx1 2 hsx1 (by omega)).mono ?_
  rintro e wx2 ⟨ax2,nx2,cx2,szx2,rfl,hrx2,hsx2,hfx2⟩
  have qx2:=hsx2.cells.1
  have hzx2:=hfx2.size
  go_wp2_with fail
  refine (Gn.bin _ ((hrx1.fr hfx2).mono (Nat.le_refl _) (show _≤Gn.eb d by omega)) (hrx2.mono (Nat.le_refl _) (show _≤Gn.eb d by omega)) (by omega)).mono ?_
  rintro e wz ⟨az,nz,cz,rfl,hrz,hbz⟩
  go_wp2_with fail
  go_ret
  exact ⟨az,nz,cz,szx2,rfl,hrz.mono (by omega) (by omega),(hsx2.below hbz).mono (by omega),((hf1.trans hfx1).trans hfx2).trans (Gn.Fr.of_below hbz)⟩
 ·go_wp2_with fail
  refine (HE.out _ w1 nv nl _ F ret loops count size 2 hs1 (by omega)).mono ?_
  rintro e wx1 ⟨ax1,nx1,cx1,szx1,rfl,hrx1,hsx1,hfx1⟩
  have qx1:=hsx1.cells.1
  have hzx1:=hfx1.size
  go_wp2_with fail
  refine (HE.out _ wx1 nv nl _ F ret loops count szx1 2 hsx1 (by omega)).mono ?_
  rintro e wx2 ⟨ax2,nx2,cx2,szx2,rfl,hrx2,hsx2,hfx2⟩
  have qx2:=hsx2.cells.1
  have hzx2:=hfx2.size
  go_wp2_with fail
  refine (Gn.bin _ ((hrx1.fr hfx2).mono (Nat.le_refl _) (show _≤Gn.eb d by omega)) (hrx2.mono (Nat.le_refl _) (show _≤Gn.eb d by omega)) (by omega)).mono ?_
  rintro e wz ⟨az,nz,cz,rfl,hrz,hbz⟩
  go_wp2_with fail
  go_ret
  exact ⟨az,nz,cz,szx2,rfl,hrz.mono (by omega) (by omega),(hsx2.below hbz).mono (by omega),((hf1.trans hfx1).trans hfx2).trans (Gn.Fr.of_below hbz)⟩
 ·go_wp2_with fail
  refine (HE.out _ w1 nv nl _ F ret loops count size 2 hs1 (by omega)).mono ?_
  rintro e wx1 ⟨ax1,nx1,cx1,szx1,rfl,hrx1,hsx1,hfx1⟩
  have qx1:=hsx1.cells.1
  have hzx1:=hfx1.size
  go_wp2_with fail
  refine (HE.out _ wx1 nv nl _ F ret loops count szx1 2 hsx1 (by omega)).mono ?_
  rintro e wx2 ⟨ax2,nx2,cx2,szx2,rfl,hrx2,hsx2,hfx2⟩
  have qx2:=hsx2.cells.1
  have hzx2:=hfx2.size
  go_wp2_with fail
  refine (Gn.bin _ ((hrx1.fr hfx2).mono (Nat.le_refl _) (show _≤Gn.eb d by omega)) (hrx2.mono (Nat.le_refl _) (show _≤Gn.eb d by omega)) (by omega)).mono ?_
  rintro e wz ⟨az,nz,cz,rfl,hrz,hbz⟩
  go_wp2_with fail
  go_ret
  exact ⟨az,nz,cz,szx2,rfl,hrz.mono (by omega) (by omega),(hsx2.below hbz).mono (by omega),((hf1.trans hfx1).trans hfx2).trans (Gn.Fr.of_below hbz)⟩
 ·have hwi:IntKind.i64.wrap (d:Int)=(d:Int):=(IntWalk.i64_left _).trans (IntWalk.wrap64_in _ (by omega))
  go_wp2_with fail
  refine wp_region_held_drew (S:=(fun W=>W.cell? ⟨g,0,none⟩=some (.pointer (some ⟨R,0,none⟩)))) (by kernel_rfl) (g1) (fun hHeld => ?_)
  refine Tk 0 (.pointer (some ⟨g,0,none⟩)) rfl ?_
  try simp [Act.put]
  refine Tk 1 (.int .i64 ((d:Int)+1)) rfl ?_
  try simp [Act.put]
  refine Tk 2 (.int .i64 (d:Int)) rfl ?_
  try simp [Act.put]
  refine Tk 4 (.pointer (some ⟨g,0,none⟩)) rfl ?_
  try simp [Act.put]
  refine Tk 5 (.pointer (some ⟨g,0,none⟩)) rfl ?_
  try simp [Act.put]
  refine Tk 6 (.pointer (some ⟨g,0,none⟩)) rfl ?_
  try simp [Act.put]
  refine Tk 7 (.pointer (some ⟨R,0,none⟩)) rfl ?_
  try simp [Act.put]
  refine Tk 10 (.pointer (some ⟨g,0,none⟩)) rfl ?_
  try simp [Act.put]
  refine Tk 11 (.pointer (some ⟨g,0,none⟩)) rfl ?_
  try simp [Act.put]
  refine Tk 12 (.pointer (some ⟨g,0,none⟩)) rfl ?_
  try simp [Act.put]
  refine Tk 13 (.pointer (some ⟨R,0,none⟩)) rfl ?_
  try simp [Act.put]
  have hsd:=hs1.below ((Below.refl _ w1).drew)
  have hzd:w1.drew.heap.size=w1.heap.size:=rfl
  refine wpAnyH_ready (rs:=[3]) (by kernel_rfl) (by simp) ?_
  refine AllReadyH.cons rfl (fun KK hK => ?_) AllReadyH.nil
  go_simp
  refine (HE.out _ w1.drew nv nl _ F ret loops count size 2 hsd (by omega)).mono ?_
  rintro e wx1 ⟨ax1,nx1,cx1,szx1,rfl,hrx1,hsx1,hfx1⟩
  have qx1:=hsx1.cells.1
  have hzx1:=hfx1.size
  go_wp2
  refine hK.out _ _ (qx1) (fun hHeld => ?_)
  clear hK
  try simp [Act.put]
  refine wpAnyH_ready (rs:=[8]) (by kernel_rfl) (by simp) ?_
  refine AllReadyH.cons rfl (fun KK hK => ?_) AllReadyH.nil
  go_simp
  refine (Gn.pick_any hsx1 3 (by omega) (by omega) (by omega)).mono ?_
  rintro e wx2 ⟨u,rfl,hu,hsx2,hfx2⟩
  have qx2:=hsx2.cells.1
  have hzx2:=hfx2.size
  go_wp2
  refine hK.out _ _ (qx2) (fun hHeld => ?_)
  clear hK
  try simp [Act.put]
  refine wpAnyH_ready (rs:=[9]) (by kernel_rfl) (by simp) ?_
  refine AllReadyH.cons rfl (fun KK hK => ?_) AllReadyH.nil
  go_simp
  refine (Gn.int_any 10 (u:Int) wx2).mono ?_
  rintro e wx3 ⟨ax3,nx3,cx3,rfl,hrx3,hbx3⟩
  have hfx3:Gn.Fr B wx2 wx3:=Gn.Fr.of_below hbx3
  have hsx3:=hsx2.below hbx3
  have qx3:=hsx3.cells.1
  have hzx3:=hfx3.size
  go_wp2
  refine hK.out _ _ (qx3) (fun hHeld => ?_)
  clear hK
  try simp [Act.put]
  refine wpAnyH_ready (rs:=[14]) (by kernel_rfl) (by simp) ?_
  refine AllReadyH.cons rfl (fun KK hK => ?_) AllReadyH.nil
  go_simp
  refine (Gn.pick_any hsx3 6 (by omega) (by omega) (by omega)).mono ?_
  rintro e wx4 ⟨y,rfl,hy,hsx4,hfx4⟩
  have qx4:=hsx4.cells.1
  have hzx4:=hfx4.size
  go_wp2
  refine hK.out _ _ (qx4) (fun hHeld => ?_)
  clear hK
  try simp [Act.put]
  refine wpAnyH_ready (rs:=[15]) (by kernel_rfl) (by simp) ?_
  refine AllReadyH.cons rfl (fun KK hK => ?_) AllReadyH.nil
  go_simp
  refine (Gn.int_any 10 (y:Int) wx4).mono ?_
  rintro e wx5 ⟨ax5,nx5,cx5,rfl,hrx5,hbx5⟩
  have hfx5:Gn.Fr B wx4 wx5:=Gn.Fr.of_below hbx5
  have hsx5:=hsx4.below hbx5
  have qx5:=hsx5.cells.1
  have hzx5:=hfx5.size
  go_wp2
  refine hK.out _ _ (qx5) (fun hHeld => ?_)
  clear hK
  try simp [Act.put]
  refine wpAnyH_ready (rs:=[16]) (by kernel_rfl) (by simp) ?_
  refine AllReadyH.cons rfl (fun KK hK => ?_) AllReadyH.nil
  go_simp
  refine hK.out _ _ (Gn.ca qx5) (fun hHeld => ?_)
  clear hK
  try simp [Act.put]
  refine wpAnyH_ready (rs:=[17]) (by kernel_rfl) (by simp) ?_
  refine AllReadyH.cons rfl (fun KK hK => ?_) AllReadyH.nil
  go_simp
  refine (Gn.built3 8 (((((hrx1.fr hfx2).fr hfx3).fr hfx4).fr hfx5).mono (Nat.le_refl _) (show _≤Gn.eb d by omega)) (((hrx3.fr hfx4).fr hfx5).mono (Nat.le_refl _) (show _≤Gn.eb d by omega)) (hrx5.mono (Nat.le_refl _) (show _≤Gn.eb d by omega)) (by omega)).mono ?_
  rintro e wz ⟨az,nz,cz,rfl,hrz,hbz⟩
  have hsz:=(hsx5.below hbz)
  go_wp2
  refine hK.out _ _ (hsz.cells.1) (fun hHeld => ?_)
  clear hK
  try simp [Act.put]
  refine Tk 18 (.slice az nz cz) rfl ?_
  try simp [Act.put]
  refine wpAnyH_done (by kernel_rfl) ?_ _
  go_wp2_with fail
  go_ret
  exact ⟨az,nz,cz,szx1,rfl,hrz.mono (by omega) (by omega),(hsx5.below hbz).mono (by omega),(((((hf1.drew.trans hfx1).trans hfx2).trans hfx3).trans hfx4).trans hfx5).trans (Gn.Fr.of_below hbz)⟩
 ·go_wp2_with fail
  refine (HE.out _ w1 nv nl _ F ret loops count size 2 hs1 (by omega)).mono ?_
  rintro e wx1 ⟨ax1,nx1,cx1,szx1,rfl,hrx1,hsx1,hfx1⟩
  have qx1:=hsx1.cells.1
  have hzx1:=hfx1.size
  go_wp2_with fail
  refine (HE.out _ wx1 nv nl _ F ret loops count szx1 10 hsx1 (by omega)).mono ?_
  rintro e wx2 ⟨ax2,nx2,cx2,szx2,rfl,hrx2,hsx2,hfx2⟩
  have qx2:=hsx2.cells.1
  have hzx2:=hfx2.size
  go_wp2_with fail
  refine (HE.out _ wx2 nv nl _ F ret loops count szx2 10 hsx2 (by omega)).mono ?_
  rintro e wx3 ⟨ax3,nx3,cx3,szx3,rfl,hrx3,hsx3,hfx3⟩
  have qx3:=hsx3.cells.1
  have hzx3:=hfx3.size
  go_wp2_with fail
  refine (Gn.built3 8 (((hrx1.fr hfx2).fr hfx3).mono (Nat.le_refl _) (show _≤Gn.eb d by omega)) ((hrx2.fr hfx3).mono (Nat.le_refl _) (show _≤Gn.eb d by omega)) (hrx3.mono (Nat.le_refl _) (show _≤Gn.eb d by omega)) (by omega)).mono ?_
  rintro e wz ⟨az,nz,cz,rfl,hrz,hbz⟩
  go_wp2_with fail
  go_ret
  exact ⟨az,nz,cz,szx3,rfl,hrz.mono (by omega) (by omega),(hsx3.below hbz).mono (by omega),(((hf1.trans hfx1).trans hfx2).trans hfx3).trans (Gn.Fr.of_below hbz)⟩
 ·go_wp2_with fail
  refine (HE.out _ w1 nv nl _ F ret loops count size 3 hs1 (by omega)).mono ?_
  rintro e wx1 ⟨ax1,nx1,cx1,szx1,rfl,hrx1,hsx1,hfx1⟩
  have qx1:=hsx1.cells.1
  have hzx1:=hfx1.size
  go_wp2_with fail
  refine (Gn.built1 10 (hrx1.mono (Nat.le_refl _) (show _≤Gn.eb d by omega)) (by omega)).mono ?_
  rintro e wz ⟨az,nz,cz,rfl,hrz,hbz⟩
  go_wp2_with fail
  go_ret
  exact ⟨az,nz,cz,szx1,rfl,hrz.mono (by omega) (by omega),(hsx1.below hbz).mono (by omega),(hf1.trans hfx1).trans (Gn.Fr.of_below hbz)⟩
 ·go_wp2_with fail
  refine (Gn.pick_any hs1 8 (by omega) (by omega) (by omega)).mono ?_
  rintro e wx1 ⟨u,rfl,hu,hsx1,hfx1⟩
  have qx1:=hsx1.cells.1
  have hzx1:=hfx1.size
  go_wp2_with fail
  refine (HE.out _ wx1 nv nl _ F ret loops count size _ hsx1 (by omega)).mono ?_
  rintro e wx2 ⟨ax2,nx2,cx2,szx2,rfl,hrx2,hsx2,hfx2⟩
  have qx2:=hsx2.cells.1
  have hzx2:=hfx2.size
  go_wp2_with fail
  refine (Gn.built1 11 (hrx2.mono (Nat.le_refl _) (show _≤Gn.eb d by omega)) (by omega)).mono ?_
  rintro e wz ⟨az,nz,cz,rfl,hrz,hbz⟩
  go_wp2_with fail
  go_ret
  exact ⟨az,nz,cz,szx2,rfl,hrz.mono (by omega) (by omega),(hsx2.below hbz).mono (by omega),((hf1.trans hfx1).trans hfx2).trans (Gn.Fr.of_below hbz)⟩
 ·go_wp2_with fail
  refine (Gn.pathG_any HE0 hs1 (by omega)).mono ?_
  rintro e wx1 ⟨ax1,nx1,cx1,szx1,rfl,hrx1,hsx1,hfx1⟩
  have qx1:=hsx1.cells.1
  have hzx1:=hfx1.size
  go_wp2_with fail
  refine (Gn.built1 1 (hrx1.mono (Nat.le_refl _) (show _≤Gn.eb d by omega)) (by omega)).mono ?_
  rintro e wz ⟨az,nz,cz,rfl,hrz,hbz⟩
  go_wp2_with fail
  go_ret
  exact ⟨az,nz,cz,szx1,rfl,hrz.mono (by omega) (by omega),(hsx1.below hbz).mono (by omega),(hf1.trans hfx1).trans (Gn.Fr.of_below hbz)⟩
 ·go_wp2_with fail
  refine (Gn.pathG_any HE0 hs1 (by omega)).mono ?_
  rintro e wx1 ⟨ax1,nx1,cx1,szx1,rfl,hrx1,hsx1,hfx1⟩
  have qx1:=hsx1.cells.1
  have hzx1:=hfx1.size
  go_wp2_with fail
  refine (Gn.built1 1 (hrx1.mono (Nat.le_refl _) (show _≤Gn.eb d by omega)) (by omega)).mono ?_
  rintro e wz ⟨az,nz,cz,rfl,hrz,hbz⟩
  go_wp2_with fail
  go_ret
  exact ⟨az,nz,cz,szx1,rfl,hrz.mono (by omega) (by omega),(hsx1.below hbz).mono (by omega),(hf1.trans hfx1).trans (Gn.Fr.of_below hbz)⟩
 ·obtain ⟨VT,hVT⟩:∃ V,w1.alloc (.cells #[.string ⟨#[]⟩,.string ⟨#[108,105,98,47]⟩,.string ⟨#[116]⟩,.string ⟨#[120,32,121]⟩] 9)=V:=⟨_,rfl⟩
  have hbT:Below w1.heap.size w1 VT:=by rw [← hVT];exact (Below.refl _ w1).alloc (Nat.le_refl _) _
  have hxT:VT.heap[w1.heap.size]? = some (.cells #[.string ⟨#[]⟩,.string ⟨#[108,105,98,47]⟩,.string ⟨#[116]⟩,.string ⟨#[120,32,121]⟩] 9):=by rw [← hVT];exact World.alloc_heap_new w1 _
  have hsT:=hs1.below hbT
  have gT:=hsT.cells.1
  have hfT:Gn.Fr B w1 VT:=Gn.Fr.of_below hbT
  have hzT:=hfT.size
  go_wp2_with fail
  try rw [hVT]
  refine (Gn.pick_any hsT 4 (by omega) (by omega) (by omega)).mono ?_
  rintro e wx1 ⟨u,rfl,hu,hsx1,hfx1⟩
  have qx1:=hsx1.cells.1
  have hzx1:=hfx1.size
  have hxU:=(hfx1.keep w1.heap.size (Array.getElem?_eq_some_iff.1 hxT).1 (.inr (fun cur t fr hc=>by rw [hxT] at hc;injection hc with hc;injection hc with _ hc _;rw [← hc];decide))).trans hxT
  obtain ⟨tx,htx,hts⟩:∃ tx:ByteArray,wx1.cell? ⟨w1.heap.size,u,none⟩=some (.string tx)∧tx.size≤100:=by
   have hu2:u < 4:=by omega
   have hall:((#[.string ⟨#[]⟩,.string ⟨#[108,105,98,47]⟩,.string ⟨#[116]⟩,.string ⟨#[120,32,121]⟩]:Array Value).toList).all (Mill.strB 100)=true:=by decide
   obtain ⟨tx,h1,h2⟩:=Mill.strB_of (List.all_eq_true.1 hall ((#[.string ⟨#[]⟩,.string ⟨#[108,105,98,47]⟩,.string ⟨#[116]⟩,.string ⟨#[120,32,121]⟩]:Array Value)[u]'(by simpa using hu2)) (by simp))
   exact ⟨tx,by rw [Lib.cell_of_heap hxU,Array.getElem?_eq_getElem (by simpa using hu2),h1],h2⟩
  have huI:(u:Int) < 4:=by omega
  clear hxU hxT hVT
  go_wp2_with fail
  refine (Gn.textNode_any tx hts wx1).mono ?_
  rintro e wx2 ⟨ax2,nx2,cx2,rfl,hrx2,hbx2⟩
  have hfx2:Gn.Fr B wx1 wx2:=Gn.Fr.of_below hbx2
  have hsx2:=hsx1.below hbx2
  have qx2:=hsx2.cells.1
  have hzx2:=hfx2.size
  go_wp2_with fail
  refine (Gn.built1 3 (hrx2.mono (Nat.le_refl _) (show _≤Gn.eb d by omega)) (by omega)).mono ?_
  rintro e wz ⟨az,nz,cz,rfl,hrz,hbz⟩
  go_wp2_with fail
  go_ret
  exact ⟨az,nz,cz,size,rfl,hrz.mono (by omega) (by omega),(hsx2.below hbz).mono (by omega),(((hf1.trans hfT).trans hfx1).trans hfx2).trans (Gn.Fr.of_below hbz)⟩
 ·obtain ⟨VT,hVT⟩:∃ V,w1.alloc (.cells #[.string ⟨#[116,48]⟩,.string ⟨#[116,49]⟩,.string ⟨#[97]⟩] 9)=V:=⟨_,rfl⟩
  have hbT:Below w1.heap.size w1 VT:=by rw [← hVT];exact (Below.refl _ w1).alloc (Nat.le_refl _) _
  have hxT:VT.heap[w1.heap.size]? = some (.cells #[.string ⟨#[116,48]⟩,.string ⟨#[116,49]⟩,.string ⟨#[97]⟩] 9):=by rw [← hVT];exact World.alloc_heap_new w1 _
  have hsT:=hs1.below hbT
  have gT:=hsT.cells.1
  have hfT:Gn.Fr B w1 VT:=Gn.Fr.of_below hbT
  have hzT:=hfT.size
  go_wp2_with fail
  try rw [hVT]
  refine (Gn.pick_any hsT 3 (by omega) (by omega) (by omega)).mono ?_
  rintro e wx1 ⟨u,rfl,hu,hsx1,hfx1⟩
  have qx1:=hsx1.cells.1
  have hzx1:=hfx1.size
  have hxU:=(hfx1.keep w1.heap.size (Array.getElem?_eq_some_iff.1 hxT).1 (.inr (fun cur t fr hc=>by rw [hxT] at hc;injection hc with hc;injection hc with _ hc _;rw [← hc];decide))).trans hxT
  obtain ⟨tx,htx,hts⟩:∃ tx:ByteArray,wx1.cell? ⟨w1.heap.size,u,none⟩=some (.string tx)∧tx.size≤100:=by
   have hu2:u < 3:=by omega
   have hall:((#[.string ⟨#[116,48]⟩,.string ⟨#[116,49]⟩,.string ⟨#[97]⟩]:Array Value).toList).all (Mill.strB 100)=true:=by decide
   obtain ⟨tx,h1,h2⟩:=Mill.strB_of (List.all_eq_true.1 hall ((#[.string ⟨#[116,48]⟩,.string ⟨#[116,49]⟩,.string ⟨#[97]⟩]:Array Value)[u]'(by simpa using hu2)) (by simp))
   exact ⟨tx,by rw [Lib.cell_of_heap hxU,Array.getElem?_eq_getElem (by simpa using hu2),h1],h2⟩
  have huI:(u:Int) < 3:=by omega
  clear hxU hxT hVT
  go_wp2_with fail
  refine (Gn.textNode_any tx hts wx1).mono ?_
  rintro e wx2 ⟨ax2,nx2,cx2,rfl,hrx2,hbx2⟩
  have hfx2:Gn.Fr B wx1 wx2:=Gn.Fr.of_below hbx2
  have hsx2:=hsx1.below hbx2
  have qx2:=hsx2.cells.1
  have hzx2:=hfx2.size
  go_wp2_with fail
  refine (HE.out _ wx2 nv nl _ F ret loops count size 2 hsx2 (by omega)).mono ?_
  rintro e wx3 ⟨ax3,nx3,cx3,szx3,rfl,hrx3,hsx3,hfx3⟩
  have qx3:=hsx3.cells.1
  have hzx3:=hfx3.size
  go_wp2_with fail
  refine (Gn.built2 4 ((hrx2.fr hfx3).mono (Nat.le_refl _) (show _≤Gn.eb d by omega)) (hrx3.mono (Nat.le_refl _) (show _≤Gn.eb d by omega)) (by omega)).mono ?_
  rintro e wz ⟨az,nz,cz,rfl,hrz,hbz⟩
  go_wp2_with fail
  go_ret
  exact ⟨az,nz,cz,szx3,rfl,hrz.mono (by omega) (by omega),(hsx3.below hbz).mono (by omega),((((hf1.trans hfT).trans hfx1).trans hfx2).trans hfx3).trans (Gn.Fr.of_below hbz)⟩
 ·have f0:((v:Int) == 0)=false:=by simp;omega
  have f1:((v:Int) == 1)=false:=by simp;omega
  have f2:((v:Int) == 2)=false:=by simp;omega
  have f3:((v:Int) == 3)=false:=by simp;omega
  have f4:((v:Int) == 4)=false:=by simp;omega
  have f5:((v:Int) == 5)=false:=by simp;omega
  have f6:((v:Int) == 6)=false:=by simp;omega
  have f7:((v:Int) == 7)=false:=by simp;omega
  have f8:((v:Int) == 8)=false:=by simp;omega
  have f9:((v:Int) == 9)=false:=by simp;omega
  have f10:((v:Int) == 10)=false:=by simp;omega
  go_wp2_with fail
  refine (Gn.call_any HE hs1 (by omega) 2).mono ?_
  rintro e w2 ⟨a2,n2,c2,b2,s2,rfl,hr2,hs2,hf2⟩
  have hz2:=hf2.size
  cases b2 with
  | true =>
   change Gn.St B g R (P+1+1+3 * Gn.eb d) w2 nv nl fv F ret loops count s2 at hs2
   go_wp2_with fail
   go_ret
   exact ⟨a2,n2,c2,s2,rfl,hr2.mono (by omega) (by omega),hs2.mono (by omega),hf1.trans hf2⟩
  | false =>
   change Gn.St B g R (P+1+1) w2 nv nl fv F ret loops count s2 at hs2
   go_wp2_with fail
   refine (Gn.leafG_any hs2 (by omega) 2).mono ?_
   rintro e w3 ⟨a3,n3,c3,rfl,hr3,hs3,hf3⟩
   go_wp2_with fail
   go_ret
   exact ⟨a3,n3,c3,s2,rfl,hr3.mono (by omega) (by omega),hs3.mono (by omega),(hf1.trans hf2).trans hf3⟩
end Go.Proofs.YtfoimmnlojjfbaaGreatDoor
