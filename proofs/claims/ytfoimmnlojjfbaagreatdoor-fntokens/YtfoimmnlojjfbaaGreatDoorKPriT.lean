import Derived.Test.YtfoimmnlojjfbaaGreatDoorKPriS
import Derived.Deep.QuietTactic
set_option maxRecDepth 100000
set_option maxHeartbeats 4000000
namespace Go.Proofs.YtfoimmnlojjfbaaGreatDoor
open Go.RowKit
theorem Pr.st_while (g:Nat) (ns:List Mill.Nd) (K:List (List Nat)) (k:Nat) (hlt:k < ns.length) (_hlen:ns.length≤12001) (hrows:K.length=ns.length) (d:Mill.Nd) (hnd:ns[k]=d) (hd:d.kind=13) (_htext:d.text.size≤1048576) (gap:ByteArray) (hgap:gap.size≤400) (c:Nat) (x:ByteArray) (hxs:x.size≤100000000) (Hx:Hid (Pr.ExprIs g ns K c x)) (b:Nat) (y:ByteArray) (hys:y.size≤100000000) (Hy:Hid (∀ w1:World,Pr.PenAt w1 g ns K→Calls Tryz.prog 74 #[.pointer (some ⟨g,0,none⟩),.int .i64 (b:Int),.string (gap++⟨#[32,32]⟩)] w1 fun e w'=>e = .returned (.string y)∧Below w1.heap.size w1 w')) (hrow:K.getD k []=[c,b]) (w:World) (HP:Hid (Pr.PenAt w g ns K)) :
  Calls Tryz.prog 97 #[.pointer (some ⟨g,0,none⟩),.int .i64 (k:Int),.string gap] w fun e w'=>e = .returned (.string (⟨#[119,104,105,108,101,32]⟩++x++⟨#[32,123,10]⟩++y++gap++⟨#[125,10]⟩))∧Below w.heap.size w w':=by
 obtain ⟨gn,cn,gk,ck,v,⟨hg,hgn,hgk⟩,p0,p1,⟨n0,n1,n2,n3,n4,n5⟩,hv,hrow0⟩:=Pr.pen_node HP.out k hlt hrows
 have p1a:∀ ob:Obj,(w.alloc ob).cell? ⟨g,1,none⟩=_:=fun ob=>(((Below.refl _ w).alloc (Nat.le_refl _) ob).cell (p:=⟨g,1,none⟩) hg).trans p1
 have hva:∀ ob:Obj,(w.alloc ob).cell? ⟨gk,k,none⟩=_:=fun ob=>(((Below.refl _ w).alloc (Nat.le_refl _) ob).cell (p:=⟨gk,k,none⟩) hgk).trans hv
 rw [hnd] at n0 n1 n2 n3 n4 n5
 clear hnd
 rw [hd] at n0
 have HR:Hid (Pr.RowAt w v (K.getD k [])):=hrow0
 clear hrow0
 have hR:=HR.out
 rw [hrow] at hR
 obtain ⟨ua,uc,rfl,hj⟩:=hR
 obtain ⟨gu,rfl,hgu,r00⟩:=hj 0 (by simp)
 obtain ⟨gu1,hgu1,_,r11⟩:=hj 1 (by simp)
 cases hgu1
 simp only [List.getElem_cons_zero,List.getElem_cons_succ] at r00 r11
 simp only [List.length_cons,List.length_nil] at hv hva
 clear hj
 have v0:¬ (9223372036854775805 < gap.size):=by omega
 have v1:¬ (9223372036854775807 < gap.size+2):=by omega
 have s0:¬ (9223372036854775807 < 6+x.size):=by omega
 have u1:¬ (9223372036854775804 < 6+x.size):=by omega
 have s1:¬ (9223372036854775807 < 6+x.size+3):=by omega
 have s2:¬ (9223372036854775807 < 6+x.size+3+y.size):=by omega
 have s3:¬ (9223372036854775807 < 6+x.size+3+y.size+gap.size):=by omega
 have u4:¬ (9223372036854775805 < 6+x.size+3+y.size+gap.size):=by omega
 have s4:¬ (9223372036854775807 < 6+x.size+3+y.size+gap.size+2):=by omega
 have hbc:=(Below.refl (w.heap.size+1) (w.alloc (.cells #[.int .i64 13,.int .i64 d.op,.int .i64 d.type,.int .i64 d.n,.string d.text,.int .i64 d.kids] 106))).drew
 obtain ⟨c0,c1,c2,c3,c4,c5⟩:=Pr.six hbc
 have r0:=((Pr.on1 hbc).cell (p:=⟨gu,0,none⟩) hgu).trans r00
 have r1:=((Pr.on1 hbc).cell (p:=⟨gu,1,none⟩) hgu).trans r11
 go_enter Tryz.func97,Tryz.ntmps97
 go_wp2_with fail
 go_region_held3 (fun w'=>w'.cell? ⟨gu,0,none⟩=some (.int .i64 (c:Int))∧w'.cell? ⟨gu,1,none⟩=some (.int .i64 (b:Int))) (with_reducible exact ⟨r0,r1⟩) (first
  | (go_at_call 107;refine (Hx.out _ (HP.out.below (Pr.on1 hbc))).mono ?_;rintro e w1 ⟨rfl,hb1⟩;have hbc:=Pr.next1 hbc hb1;obtain ⟨c0,c1,c2,c3,c4,c5⟩:=Pr.six hbc;have r0:=((Pr.on1 hbc).cell (p:=⟨gu,0,none⟩) hgu).trans r00;have r1:=((Pr.on1 hbc).cell (p:=⟨gu,1,none⟩) hgu).trans r11)
  | (go_at_call 74;refine (Hy.out _ (HP.out.below (Pr.on1 hbc))).mono ?_;rintro e w1 ⟨rfl,hb1⟩;have hbc:=Pr.next1 hbc hb1;obtain ⟨c0,c1,c2,c3,c4,c5⟩:=Pr.six hbc;have r0:=((Pr.on1 hbc).cell (p:=⟨gu,0,none⟩) hgu).trans r00;have r1:=((Pr.on1 hbc).cell (p:=⟨gu,1,none⟩) hgu).trans r11))
 go_wp2
 go_ret
 exact ⟨rfl,Pr.on1 hbc⟩
theorem Pr.st_if2 (g:Nat) (ns:List Mill.Nd) (K:List (List Nat)) (k:Nat) (hlt:k < ns.length) (_hlen:ns.length≤12001) (hrows:K.length=ns.length) (d:Mill.Nd) (hnd:ns[k]=d) (hd:d.kind=12) (_htext:d.text.size≤1048576) (gap:ByteArray) (hgap:gap.size≤400) (c:Nat) (x:ByteArray) (hxs:x.size≤100000000) (Hx:Hid (Pr.ExprIs g ns K c x)) (b:Nat) (y:ByteArray) (hys:y.size≤100000000) (Hy:Hid (∀ w1:World,Pr.PenAt w1 g ns K→Calls Tryz.prog 74 #[.pointer (some ⟨g,0,none⟩),.int .i64 (b:Int),.string (gap++⟨#[32,32]⟩)] w1 fun e w'=>e = .returned (.string y)∧Below w1.heap.size w1 w')) (hrow:K.getD k []=[c,b]) (w:World) (HP:Hid (Pr.PenAt w g ns K)) :
  Calls Tryz.prog 97 #[.pointer (some ⟨g,0,none⟩),.int .i64 (k:Int),.string gap] w fun e w'=>e = .returned (.string (⟨#[105,102,32]⟩++x++⟨#[32,123,10]⟩++y++gap++⟨#[125]⟩++⟨#[10]⟩))∧Below w.heap.size w w':=by
 obtain ⟨gn,cn,gk,ck,v,⟨hg,hgn,hgk⟩,p0,p1,⟨n0,n1,n2,n3,n4,n5⟩,hv,hrow0⟩:=Pr.pen_node HP.out k hlt hrows
 have p1a:∀ ob:Obj,(w.alloc ob).cell? ⟨g,1,none⟩=_:=fun ob=>(((Below.refl _ w).alloc (Nat.le_refl _) ob).cell (p:=⟨g,1,none⟩) hg).trans p1
 have hva:∀ ob:Obj,(w.alloc ob).cell? ⟨gk,k,none⟩=_:=fun ob=>(((Below.refl _ w).alloc (Nat.le_refl _) ob).cell (p:=⟨gk,k,none⟩) hgk).trans hv
 rw [hnd] at n0 n1 n2 n3 n4 n5
 clear hnd
 rw [hd] at n0
 have HR:Hid (Pr.RowAt w v (K.getD k [])):=hrow0
 clear hrow0
 have hR:=HR.out
 rw [hrow] at hR
 obtain ⟨ua,uc,rfl,hj⟩:=hR
 obtain ⟨gu,rfl,hgu,r00⟩:=hj 0 (by simp)
 obtain ⟨gu1,hgu1,_,r11⟩:=hj 1 (by simp)
 cases hgu1
 simp only [List.getElem_cons_zero,List.getElem_cons_succ] at r00 r11
 simp only [List.length_cons,List.length_nil] at hv hva
 clear hj
 have v0:¬ (9223372036854775805 < gap.size):=by omega
 have v1:¬ (9223372036854775807 < gap.size+2):=by omega
 have s0:¬ (9223372036854775807 < 3+x.size):=by omega
 have u1:¬ (9223372036854775804 < 3+x.size):=by omega
 have s1:¬ (9223372036854775807 < 3+x.size+3):=by omega
 have s2:¬ (9223372036854775807 < 3+x.size+3+y.size):=by omega
 have s3:¬ (9223372036854775807 < 3+x.size+3+y.size+gap.size):=by omega
 have u4:¬ (9223372036854775806 < 3+x.size+3+y.size+gap.size):=by omega
 have s4:¬ (9223372036854775807 < 3+x.size+3+y.size+gap.size+1):=by omega
 have u5:¬ (9223372036854775806 < 3+x.size+3+y.size+gap.size+1):=by omega
 have s5:¬ (9223372036854775807 < 3+x.size+3+y.size+gap.size+1+1):=by omega
 have hbc:=(Below.refl (w.heap.size+1) (w.alloc (.cells #[.int .i64 12,.int .i64 d.op,.int .i64 d.type,.int .i64 d.n,.string d.text,.int .i64 d.kids] 106))).drew
 obtain ⟨c0,c1,c2,c3,c4,c5⟩:=Pr.six hbc
 have r0:=((Pr.on1 hbc).cell (p:=⟨gu,0,none⟩) hgu).trans r00
 have r1:=((Pr.on1 hbc).cell (p:=⟨gu,1,none⟩) hgu).trans r11
 go_enter Tryz.func97,Tryz.ntmps97
 go_wp2_with fail
 go_region_held3 (fun w'=>w'.cell? ⟨gu,0,none⟩=some (.int .i64 (c:Int))∧w'.cell? ⟨gu,1,none⟩=some (.int .i64 (b:Int))) (with_reducible exact ⟨r0,r1⟩) (first
  | (go_at_call 107;refine (Hx.out _ (HP.out.below (Pr.on1 hbc))).mono ?_;rintro e w1 ⟨rfl,hb1⟩;have hbc:=Pr.next1 hbc hb1;obtain ⟨c0,c1,c2,c3,c4,c5⟩:=Pr.six hbc;have r0:=((Pr.on1 hbc).cell (p:=⟨gu,0,none⟩) hgu).trans r00;have r1:=((Pr.on1 hbc).cell (p:=⟨gu,1,none⟩) hgu).trans r11)
  | (go_at_call 74;refine (Hy.out _ (HP.out.below (Pr.on1 hbc))).mono ?_;rintro e w1 ⟨rfl,hb1⟩;have hbc:=Pr.next1 hbc hb1;obtain ⟨c0,c1,c2,c3,c4,c5⟩:=Pr.six hbc;have r0:=((Pr.on1 hbc).cell (p:=⟨gu,0,none⟩) hgu).trans r00;have r1:=((Pr.on1 hbc).cell (p:=⟨gu,1,none⟩) hgu).trans r11))
 go_wp2
 go_ret
 exact ⟨rfl,Pr.on1 hbc⟩
theorem Pr.st_ifif (g:Nat) (ns:List Mill.Nd) (K:List (List Nat)) (k:Nat) (hlt:k < ns.length) (_hlen:ns.length≤12001) (hrows:K.length=ns.length) (d:Mill.Nd) (hnd:ns[k]=d) (hd:d.kind=12) (_htext:d.text.size≤1048576) (gap:ByteArray) (hgap:gap.size≤400) (c:Nat) (x:ByteArray) (hxs:x.size≤100000000) (Hx:Hid (Pr.ExprIs g ns K c x)) (b:Nat) (y:ByteArray) (hys:y.size≤100000000) (Hy:Hid (∀ w1:World,Pr.PenAt w1 g ns K→Calls Tryz.prog 74 #[.pointer (some ⟨g,0,none⟩),.int .i64 (b:Int),.string (gap++⟨#[32,32]⟩)] w1 fun e w'=>e = .returned (.string y)∧Below w1.heap.size w1 w')) (f:Nat) (z:ByteArray) (hfl:f < ns.length) (hzs:z.size≤100000000) (Hz:Hid (∀ w1:World,Pr.PenAt w1 g ns K→Calls Tryz.prog 97 #[.pointer (some ⟨g,0,none⟩),.int .i64 (f:Int),.string gap] w1 fun e w'=>e = .returned (.string z)∧Below w1.heap.size w1 w')) (hrow:K.getD k []=[c,b,f]) (hk12:ns[f].kind=12) (w:World) (HP:Hid (Pr.PenAt w g ns K)) :
  Calls Tryz.prog 97 #[.pointer (some ⟨g,0,none⟩),.int .i64 (k:Int),.string gap] w fun e w'=>e = .returned (.string (⟨#[105,102,32]⟩++x++⟨#[32,123,10]⟩++y++gap++⟨#[125]⟩++⟨#[32,101,108,115,101,32]⟩++z))∧Below w.heap.size w w':=by
 obtain ⟨gn,cn,gk,ck,v,⟨hg,hgn,hgk⟩,p0,p1,⟨n0,n1,n2,n3,n4,n5⟩,hv,hrow0⟩:=Pr.pen_node HP.out k hlt hrows
 have p1a:∀ ob:Obj,(w.alloc ob).cell? ⟨g,1,none⟩=_:=fun ob=>(((Below.refl _ w).alloc (Nat.le_refl _) ob).cell (p:=⟨g,1,none⟩) hg).trans p1
 have hva:∀ ob:Obj,(w.alloc ob).cell? ⟨gk,k,none⟩=_:=fun ob=>(((Below.refl _ w).alloc (Nat.le_refl _) ob).cell (p:=⟨gk,k,none⟩) hgk).trans hv
 rw [hnd] at n0 n1 n2 n3 n4 n5
 clear hnd
 rw [hd] at n0
 have HR:Hid (Pr.RowAt w v (K.getD k [])):=hrow0
 clear hrow0
 have hR:=HR.out
 rw [hrow] at hR
 obtain ⟨ua,uc,rfl,hj⟩:=hR
 obtain ⟨gu,rfl,hgu,r00⟩:=hj 0 (by simp)
 obtain ⟨gu1,hgu1,_,r11⟩:=hj 1 (by simp)
 cases hgu1
 obtain ⟨gu2,hgu2,_,r22⟩:=hj 2 (by simp)
 cases hgu2
 simp only [List.getElem_cons_zero,List.getElem_cons_succ] at r00 r11 r22
 simp only [List.length_cons,List.length_nil] at hv hva
 clear hj
 have nk0:=Pr.pen_node HP.out f hfl hrows
 obtain ⟨gn',cn',_,_,_,_,q0,_,⟨m0,_⟩,_⟩:=nk0
 rw [p0] at q0
 cases q0
 rw [hk12] at m0
 have v0:¬ (9223372036854775805 < gap.size):=by omega
 have v1:¬ (9223372036854775807 < gap.size+2):=by omega
 have s0:¬ (9223372036854775807 < 3+x.size):=by omega
 have u1:¬ (9223372036854775804 < 3+x.size):=by omega
 have s1:¬ (9223372036854775807 < 3+x.size+3):=by omega
 have s2:¬ (9223372036854775807 < 3+x.size+3+y.size):=by omega
 have s3:¬ (9223372036854775807 < 3+x.size+3+y.size+gap.size):=by omega
 have u4:¬ (9223372036854775806 < 3+x.size+3+y.size+gap.size):=by omega
 have s4:¬ (9223372036854775807 < 3+x.size+3+y.size+gap.size+1):=by omega
 have u5:¬ (9223372036854775801 < 3+x.size+3+y.size+gap.size+1):=by omega
 have s5:¬ (9223372036854775807 < 3+x.size+3+y.size+gap.size+1+6):=by omega
 have s6:¬ (9223372036854775807 < 3+x.size+3+y.size+gap.size+1+6+z.size):=by omega
 have hbc:=(Below.refl (w.heap.size+1) (w.alloc (.cells #[.int .i64 12,.int .i64 d.op,.int .i64 d.type,.int .i64 d.n,.string d.text,.int .i64 d.kids] 106))).drew
 obtain ⟨c0,c1,c2,c3,c4,c5⟩:=Pr.six hbc
 have r0:=((Pr.on1 hbc).cell (p:=⟨gu,0,none⟩) hgu).trans r00
 have r1:=((Pr.on1 hbc).cell (p:=⟨gu,1,none⟩) hgu).trans r11
 have r2:=((Pr.on1 hbc).cell (p:=⟨gu,2,none⟩) hgu).trans r22
 go_enter Tryz.func97,Tryz.ntmps97
 go_wp2_with fail
 go_region_held3 (fun w'=>w'.cell? ⟨gu,0,none⟩=some (.int .i64 (c:Int))∧w'.cell? ⟨gu,1,none⟩=some (.int .i64 (b:Int))) (with_reducible exact ⟨r0,r1⟩) (first
  | (go_at_call 107;refine (Hx.out _ (HP.out.below (Pr.on1 hbc))).mono ?_;rintro e w1 ⟨rfl,hb1⟩;have hbc:=Pr.next1 hbc hb1;obtain ⟨c0,c1,c2,c3,c4,c5⟩:=Pr.six hbc;have r0:=((Pr.on1 hbc).cell (p:=⟨gu,0,none⟩) hgu).trans r00;have r1:=((Pr.on1 hbc).cell (p:=⟨gu,1,none⟩) hgu).trans r11;have r2:=((Pr.on1 hbc).cell (p:=⟨gu,2,none⟩) hgu).trans r22)
  | (go_at_call 74;refine (Hy.out _ (HP.out.below (Pr.on1 hbc))).mono ?_;rintro e w1 ⟨rfl,hb1⟩;have hbc:=Pr.next1 hbc hb1;obtain ⟨c0,c1,c2,c3,c4,c5⟩:=Pr.six hbc;have r0:=((Pr.on1 hbc).cell (p:=⟨gu,0,none⟩) hgu).trans r00;have r1:=((Pr.on1 hbc).cell (p:=⟨gu,1,none⟩) hgu).trans r11;have r2:=((Pr.on1 hbc).cell (p:=⟨gu,2,none⟩) hgu).trans r22))
 have pc:=((Pr.on1 hbc).cell (p:=⟨g,0,none⟩) hg).trans p0
 have mc:=((Pr.on1 hbc).cell (p:=⟨gn,f * 6,none⟩) hgn).trans m0
 have hf1:f < ns.length:=hfl
 go_wp2_with fail
 go_quiet (fail)
 have hbc:=Pr.below_drewN nq hbc
 obtain ⟨c0,c1,c2,c3,c4,c5⟩:=Pr.six hbc
 have r0:=((Pr.on1 hbc).cell (p:=⟨gu,0,none⟩) hgu).trans r00
 have r1:=((Pr.on1 hbc).cell (p:=⟨gu,1,none⟩) hgu).trans r11
 have r2:=((Pr.on1 hbc).cell (p:=⟨gu,2,none⟩) hgu).trans r22
 go_wp2_with (first
  | (go_at_call 97;refine (Hz.out _ (HP.out.below (Pr.on1 hbc))).mono ?_;rintro e w1 ⟨rfl,hb1⟩;have hbc:=Pr.next1 hbc hb1;obtain ⟨c0,c1,c2,c3,c4,c5⟩:=Pr.six hbc;have r0:=((Pr.on1 hbc).cell (p:=⟨gu,0,none⟩) hgu).trans r00;have r1:=((Pr.on1 hbc).cell (p:=⟨gu,1,none⟩) hgu).trans r11;have r2:=((Pr.on1 hbc).cell (p:=⟨gu,2,none⟩) hgu).trans r22))
 go_ret
 exact ⟨rfl,Pr.on1 hbc⟩
theorem Pr.st_ifelse (g:Nat) (ns:List Mill.Nd) (K:List (List Nat)) (k:Nat) (hlt:k < ns.length) (_hlen:ns.length≤12001) (hrows:K.length=ns.length) (d:Mill.Nd) (hnd:ns[k]=d) (hd:d.kind=12) (_htext:d.text.size≤1048576) (gap:ByteArray) (hgap:gap.size≤400) (c:Nat) (x:ByteArray) (hxs:x.size≤100000000) (Hx:Hid (Pr.ExprIs g ns K c x)) (b:Nat) (y:ByteArray) (hys:y.size≤100000000) (Hy:Hid (∀ w1:World,Pr.PenAt w1 g ns K→Calls Tryz.prog 74 #[.pointer (some ⟨g,0,none⟩),.int .i64 (b:Int),.string (gap++⟨#[32,32]⟩)] w1 fun e w'=>e = .returned (.string y)∧Below w1.heap.size w1 w')) (f:Nat) (hfl:f < ns.length) (z:ByteArray) (hzs:z.size≤100000000) (Hz:Hid (∀ w1:World,Pr.PenAt w1 g ns K→Calls Tryz.prog 74 #[.pointer (some ⟨g,0,none⟩),.int .i64 (f:Int),.string (gap++⟨#[32,32]⟩)] w1 fun e w'=>e = .returned (.string z)∧Below w1.heap.size w1 w')) (hrow:K.getD k []=[c,b,f]) (hk12:¬ ns[f].kind=12) (w:World) (HP:Hid (Pr.PenAt w g ns K)) :
  Calls Tryz.prog 97 #[.pointer (some ⟨g,0,none⟩),.int .i64 (k:Int),.string gap] w fun e w'=>e = .returned (.string (⟨#[105,102,32]⟩++x++⟨#[32,123,10]⟩++y++gap++⟨#[125]⟩++⟨#[32,101,108,115,101,32,123,10]⟩++z++gap++⟨#[125,10]⟩))∧Below w.heap.size w w':=by
 obtain ⟨gn,cn,gk,ck,v,⟨hg,hgn,hgk⟩,p0,p1,⟨n0,n1,n2,n3,n4,n5⟩,hv,hrow0⟩:=Pr.pen_node HP.out k hlt hrows
 have p1a:∀ ob:Obj,(w.alloc ob).cell? ⟨g,1,none⟩=_:=fun ob=>(((Below.refl _ w).alloc (Nat.le_refl _) ob).cell (p:=⟨g,1,none⟩) hg).trans p1
 have hva:∀ ob:Obj,(w.alloc ob).cell? ⟨gk,k,none⟩=_:=fun ob=>(((Below.refl _ w).alloc (Nat.le_refl _) ob).cell (p:=⟨gk,k,none⟩) hgk).trans hv
 rw [hnd] at n0 n1 n2 n3 n4 n5
 clear hnd
 rw [hd] at n0
 have HR:Hid (Pr.RowAt w v (K.getD k [])):=hrow0
 clear hrow0
 have hR:=HR.out
 rw [hrow] at hR
 obtain ⟨ua,uc,rfl,hj⟩:=hR
 obtain ⟨gu,rfl,hgu,r00⟩:=hj 0 (by simp)
 obtain ⟨gu1,hgu1,_,r11⟩:=hj 1 (by simp)
 cases hgu1
 obtain ⟨gu2,hgu2,_,r22⟩:=hj 2 (by simp)
 cases hgu2
 simp only [List.getElem_cons_zero,List.getElem_cons_succ] at r00 r11 r22
 simp only [List.length_cons,List.length_nil] at hv hva
 clear hj
 have nk0:=Pr.pen_node HP.out f hfl hrows
 obtain ⟨gn',cn',_,_,_,_,q0,_,⟨m0,_⟩,_⟩:=nk0
 rw [p0] at q0
 cases q0
 have hk12':(ns[f].kind == 12)=false:=by simpa using hk12
 have v0:¬ (9223372036854775805 < gap.size):=by omega
 have v1:¬ (9223372036854775807 < gap.size+2):=by omega
 have s0:¬ (9223372036854775807 < 3+x.size):=by omega
 have u1:¬ (9223372036854775804 < 3+x.size):=by omega
 have s1:¬ (9223372036854775807 < 3+x.size+3):=by omega
 have s2:¬ (9223372036854775807 < 3+x.size+3+y.size):=by omega
 have s3:¬ (9223372036854775807 < 3+x.size+3+y.size+gap.size):=by omega
 have u4:¬ (9223372036854775806 < 3+x.size+3+y.size+gap.size):=by omega
 have s4:¬ (9223372036854775807 < 3+x.size+3+y.size+gap.size+1):=by omega
 have u5:¬ (9223372036854775799 < 3+x.size+3+y.size+gap.size+1):=by omega
 have s5:¬ (9223372036854775807 < 3+x.size+3+y.size+gap.size+1+8):=by omega
 have s6:¬ (9223372036854775807 < 3+x.size+3+y.size+gap.size+1+8+z.size):=by omega
 have s7:¬ (9223372036854775807 < 3+x.size+3+y.size+gap.size+1+8+z.size+gap.size):=by omega
 have u8:¬ (9223372036854775805 < 3+x.size+3+y.size+gap.size+1+8+z.size+gap.size):=by omega
 have s8:¬ (9223372036854775807 < 3+x.size+3+y.size+gap.size+1+8+z.size+gap.size+2):=by omega
 have hbc:=(Below.refl (w.heap.size+1) (w.alloc (.cells #[.int .i64 12,.int .i64 d.op,.int .i64 d.type,.int .i64 d.n,.string d.text,.int .i64 d.kids] 106))).drew
 obtain ⟨c0,c1,c2,c3,c4,c5⟩:=Pr.six hbc
 have r0:=((Pr.on1 hbc).cell (p:=⟨gu,0,none⟩) hgu).trans r00
 have r1:=((Pr.on1 hbc).cell (p:=⟨gu,1,none⟩) hgu).trans r11
 have r2:=((Pr.on1 hbc).cell (p:=⟨gu,2,none⟩) hgu).trans r22
 go_enter Tryz.func97,Tryz.ntmps97
 go_wp2_with fail
 go_region_held3 (fun w'=>w'.cell? ⟨gu,0,none⟩=some (.int .i64 (c:Int))∧w'.cell? ⟨gu,1,none⟩=some (.int .i64 (b:Int))) (with_reducible exact ⟨r0,r1⟩) (first
  | (go_at_call 107;refine (Hx.out _ (HP.out.below (Pr.on1 hbc))).mono ?_;rintro e w1 ⟨rfl,hb1⟩;have hbc:=Pr.next1 hbc hb1;obtain ⟨c0,c1,c2,c3,c4,c5⟩:=Pr.six hbc;have r0:=((Pr.on1 hbc).cell (p:=⟨gu,0,none⟩) hgu).trans r00;have r1:=((Pr.on1 hbc).cell (p:=⟨gu,1,none⟩) hgu).trans r11;have r2:=((Pr.on1 hbc).cell (p:=⟨gu,2,none⟩) hgu).trans r22)
  | (go_at_call 74;refine (Hy.out _ (HP.out.below (Pr.on1 hbc))).mono ?_;rintro e w1 ⟨rfl,hb1⟩;have hbc:=Pr.next1 hbc hb1;obtain ⟨c0,c1,c2,c3,c4,c5⟩:=Pr.six hbc;have r0:=((Pr.on1 hbc).cell (p:=⟨gu,0,none⟩) hgu).trans r00;have r1:=((Pr.on1 hbc).cell (p:=⟨gu,1,none⟩) hgu).trans r11;have r2:=((Pr.on1 hbc).cell (p:=⟨gu,2,none⟩) hgu).trans r22))
 have pc:=((Pr.on1 hbc).cell (p:=⟨g,0,none⟩) hg).trans p0
 have mc:=((Pr.on1 hbc).cell (p:=⟨gn,f * 6,none⟩) hgn).trans m0
 have hf1:f < ns.length:=hfl
 go_wp2_with fail
 go_quiet (fail)
 have hbc:=Pr.below_drewN nq hbc
 obtain ⟨c0,c1,c2,c3,c4,c5⟩:=Pr.six hbc
 have r0:=((Pr.on1 hbc).cell (p:=⟨gu,0,none⟩) hgu).trans r00
 have r1:=((Pr.on1 hbc).cell (p:=⟨gu,1,none⟩) hgu).trans r11
 have r2:=((Pr.on1 hbc).cell (p:=⟨gu,2,none⟩) hgu).trans r22
 go_wp2_with (first
  | (go_at_call 74;refine (Hz.out _ (HP.out.below (Pr.on1 hbc))).mono ?_;rintro e w1 ⟨rfl,hb1⟩;have hbc:=Pr.next1 hbc hb1;obtain ⟨c0,c1,c2,c3,c4,c5⟩:=Pr.six hbc;have r0:=((Pr.on1 hbc).cell (p:=⟨gu,0,none⟩) hgu).trans r00;have r1:=((Pr.on1 hbc).cell (p:=⟨gu,1,none⟩) hgu).trans r11;have r2:=((Pr.on1 hbc).cell (p:=⟨gu,2,none⟩) hgu).trans r22))
 go_ret
 exact ⟨rfl,Pr.on1 hbc⟩
def Pr.catL (gap:ByteArray) (xs:List ByteArray):List UInt8:=xs.flatMap (fun x=>gap.data.toList++x.data.toList)
def Pr.catB (gap:ByteArray) (xs:List ByteArray):ByteArray:=⟨(Pr.catL gap xs).toArray⟩
def Pr.totalG (n:Nat) (xs:List ByteArray):Nat:=(xs.map (fun x=>x.size+n)).sum
theorem Pr.totalG_app (n:Nat) (a b:List ByteArray):Pr.totalG n (a++b)=Pr.totalG n a+Pr.totalG n b:=by simp [Pr.totalG]
theorem Pr.totalG_take (n:Nat) (xs:List ByteArray) (j:Nat):Pr.totalG n (xs.take j)≤Pr.totalG n xs:=by
 have h:=Pr.totalG_app n (xs.take j) (xs.drop j)
 rw [List.take_append_drop] at h
 omega
theorem Pr.catL_len (gap:ByteArray):∀ xs:List ByteArray,(Pr.catL gap xs).length=Pr.totalG gap.size xs
 | []=>by simp [Pr.catL,Pr.totalG]
 | x::r=>by
  have h:=Pr.catL_len gap r
  have e1:x.data.toList.length=x.size:=by simp
  have e2:gap.data.toList.length=gap.size:=by simp
  simp only [Pr.catL,Pr.totalG,List.flatMap_cons,List.length_append,List.map_cons,List.sum_cons] at h ⊢
  omega
def Pr.StatIs (g:Nat) (ns:List Mill.Nd) (K:List (List Nat)) (k:Nat) (gap x:ByteArray):Prop :=
 ∀ w:World,Pr.PenAt w g ns K→Calls Tryz.prog 97 #[.pointer (some ⟨g,0,none⟩),.int .i64 (k:Int),.string gap] w fun e w'=>e = .returned (.string x)∧Below w.heap.size w w'
def Pr.BlockIs (g:Nat) (ns:List Mill.Nd) (K:List (List Nat)) (k:Nat) (gap x:ByteArray):Prop :=
 ∀ w:World,Pr.PenAt w g ns K→Calls Tryz.prog 74 #[.pointer (some ⟨g,0,none⟩),.int .i64 (k:Int),.string gap] w fun e w'=>e = .returned (.string x)∧Below w.heap.size w w'
theorem Pr.block_any (g:Nat) (ns:List Mill.Nd) (K:List (List Nat)) (k:Nat) (hlt:k < ns.length) (hrows:K.length=ns.length) (_hlen0:ns.length≤12001) (gap:ByteArray) (hgap:gap.size≤400) (xs:List ByteArray) (hlen:xs.length=(K.getD k []).length) (hl:(K.getD k []).length≤12001) (ht:Pr.totalG gap.size xs≤100000000)
    (HE:Hid (∀ j (h:j < (K.getD k []).length) (h':j < xs.length),Pr.StatIs g ns K (K.getD k [])[j] gap xs[j])) (w:World) (HP:Hid (Pr.PenAt w g ns K)) :
    Calls Tryz.prog 74 #[.pointer (some ⟨g,0,none⟩),.int .i64 (k:Int),.string gap] w fun e w'=>e = .returned (.string (Pr.catB gap xs))∧Below w.heap.size w w':=by
  obtain ⟨i0,hi,hz0,hz1,hz2⟩:=info_parts Tryz.infoByte
  obtain ⟨gn,cn,gk,ck,v,⟨hg,hgn,hgk⟩,p0,p1,_,hv,hrow0⟩:=Pr.pen_node HP.out k hlt hrows
  have p1a:∀ ob:Obj,(w.alloc ob).cell? ⟨g,1,none⟩=_:=fun ob=>(((Below.refl _ w).alloc (Nat.le_refl _) ob).cell (p:=⟨g,1,none⟩) hg).trans p1
  have hva:∀ ob:Obj,(w.alloc ob).cell? ⟨gk,k,none⟩=_:=fun ob=>(((Below.refl _ w).alloc (Nat.le_refl _) ob).cell (p:=⟨gk,k,none⟩) hgk).trans hv
  generalize K.getD k []=ks at *
  obtain ⟨ua,uc,rfl,hj0⟩:=hrow0
  have HJ:Hid (∀ j (h:j < ks.length),∃ gu,ua=some ⟨gu,0,none⟩∧gu < w.heap.size∧w.cell? ⟨gu,j,none⟩=some (.int .i64 (ks[j]:Int))):=hj0
  clear hj0
  obtain ⟨n,HN⟩:∃ n,Hid (ks.length=n):=⟨_,(rfl:ks.length=_)⟩
  rw [HN.out] at hl hlen hv
  simp only [HN.out] at hva
  go_enter Tryz.func74,Tryz.ntmps74
  go_wp2
  have he2:gap.data.toList.length=gap.size:=by simp
  go_loopw [7,9] (fun o i wr => ∃ (j:Nat) (acc:List UInt8),i = .int .i64 (j:Int)∧j≤n∧acc=Pr.catL gap (xs.take j)∧wr.ownsRow w.heap.size 5 1 o acc.length (Lib.byteCells acc)∧Below w.heap.size w wr) (fun _ i _=>n - (intOf i).toNat)
  case atStart =>
    refine ⟨0,[],rfl,by omega,by simp [Pr.catL], ?_,(Below.refl _ w).alloc (Nat.le_refl _) _⟩
    exact World.ownsRow_made (base:=w.heap.size) (e:=5) (size:=1) w #[] 0 (Nat.le_refl _) (by decide) rfl
  case round =>
    obtain ⟨j,acc,rfl,hj,hacc,hown,hbw⟩:=hrel
    have hsz:=hbw.size
    have hlen2:acc.length≤100000000:=by
      have h1:=Pr.catL_len gap (xs.take j)
      have h2:=Pr.totalG_take gap.size xs j
      rw [hacc];omega
    by_cases hjn:j < n
    · have hjk:j < ks.length:=by rw [HN.out];exact hjn
      have hjx:j < xs.length:=by omega
      obtain ⟨gu,rfl,hgu,hcell⟩:=HJ.out j hjk
      have hE:=HE.out j hjk hjx
      have e2:xs.take j++[xs[j]]=xs.take (j+1):=by rw [List.take_add_one,List.getElem?_eq_getElem hjx];rfl
      have hxs:xs[j].size≤100000000:=by
        have h1:=Pr.totalG_take gap.size xs (j+1)
        have e:Pr.totalG gap.size (xs.take (j+1))=Pr.totalG gap.size (xs.take j)+(xs[j].size+gap.size):=by
          rw [← e2,Pr.totalG_app];simp [Pr.totalG]
        omega
      have HU:Hid ((acc++gap.data.toList)++xs[j].data.toList=Pr.catL gap (xs.take (j+1))):=by
        rw [Hid,← e2,hacc,Pr.catL,Pr.catL,List.flatMap_append]
        simp only [List.flatMap_cons,List.flatMap_nil,List.append_nil,List.append_assoc]
      generalize xs[j]=x at *
      generalize ks[j]=c at *
      have HX:Hid (Pr.StatIs g ns K c gap x):=hE
      clear hE e2 hacc
      have c1:wr.cell? ⟨gu,j,none⟩=some (.int .i64 (c:Int)):=(hbw.cell (p:=⟨gu,j,none⟩) hgu).trans hcell
      have hm1:acc.length+gap.size≤maxLen:=by unfold maxLen;omega
      have hm2:acc.length+gap.size≤140737488355328:=by omega
      have hm3:(acc++gap.data.toList).length+x.size≤maxLen:=by rw [List.length_append,he2];unfold maxLen;omega
      have hm4:(acc++gap.data.toList).length+x.size≤140737488355328:=by rw [List.length_append,he2];omega
      go_wp2_with (first
        | (go_at_call 97;refine (HX.out _ (HP.out.below hbc)).mono ?_;rintro e w2 ⟨rfl,hb2⟩
           have own2:=Val.own_next ownc hb2
           have hbw2:=hbc.trans (hb2.mono hbc.size))
        | (at_builtin;refine Lib.wpList_append_own_string _ rfl _ _ 22 9 rfl w.heap.size 5 i0 Tryz.underlying22 Tryz.underlying9 hi hz0 hz1 hz2 _ _ _ rfl own2 x rfl hm3 hm4 hbw2.size ?_;intro v' w3 hown' hgrow3 hnil3)
        | (at_builtin;refine Lib.wpList_append_own_string _ rfl _ _ 22 9 rfl w.heap.size 5 i0 Tryz.underlying22 Tryz.underlying9 hi hz0 hz1 hz2 _ _ _ rfl hown gap rfl hm1 hm2 hsz ?_;intro vc wc0 hownc hgrowc hnilc
           have hbc:Below w.heap.size w wc0:=Below.grown hbw hgrowc hsz (fun j hj=>(hown.lt _ hj).1)
           have ownc:wc0.ownsRow w.heap.size 5 1 vc (acc++gap.data.toList).length (Lib.byteCells (acc++gap.data.toList)):=Pr.own_app acc gap hownc
           have cc:wc0.cell? ⟨gu,j,none⟩=some (.int .i64 (c:Int)):=(hbc.cell (p:=⟨gu,j,none⟩) hgu).trans hcell))
      have hb3:Below w.heap.size w w3:=Below.grown hbw2 hgrow3 hbw2.size (fun j hj=>(own2.lt _ hj).1)
      have HO:Hid (w3.ownsRow w.heap.size 5 1 v' ((acc++gap.data.toList)++x.data.toList).length (Lib.byteCells ((acc++gap.data.toList)++x.data.toList))):=Pr.own_app _ x hown'
      clear hown' hgrow3
      go_wp2
      go_roundw
      case rel=>exact ⟨j+1,_,by go_num,by omega,HU.out,HO.out,hb3⟩
      case measure=>simp [intOf];omega
    · have HU:Hid (acc=Pr.catL gap xs):=by rw [Hid,hacc,List.take_of_length_le (by omega)]
      have hcv:=Mill.conv_own (P:=Tryz.prog) (src:=22) (dst:=9) Tryz.underlying22 Tryz.underlying5 Tryz.underlying9 hown
      clear hacc
      go_wp2
      go_ret
      exact ⟨by rw [Pr.catB,← HU.out];rfl,hbw⟩
end Go.Proofs.YtfoimmnlojjfbaaGreatDoor
