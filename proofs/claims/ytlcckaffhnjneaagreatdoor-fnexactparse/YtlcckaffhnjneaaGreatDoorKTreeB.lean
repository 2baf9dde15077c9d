import Derived.Test.YtlcckaffhnjneaaGreatDoorKScanA
import Derived.Deep.Light
import Derived.Deep.RegionWith
import Derived.Deep.QuietTactic
import Derived.BigQuiet
set_option maxRecDepth 100000
set_option maxHeartbeats 1000000
namespace Go.Proofs.YtlcckaffhnjneaaGreatDoor
open Go.RowKit
def Mill.kindOk (d:Mill.Nd):Bool :=
 if d.kind=1 then decide (3≤d.type) && decide (d.type≤10) && decide (IntKind.u64.wrap d.n≤Mill.maxOf d.type)
 else if d.kind=2 then decide (d.text.size≤3000)
 else if d.kind=3 then decide (d.n=0) || decide (d.n=1)
 else if d.kind=5 then decide (1≤d.op) && decide (d.op≤3)
 else if d.kind=6 then decide (1≤d.op) && decide (d.op≤18)
 else if d.kind=8 then decide (1≤d.op) && decide (d.op≤12)
 else if d.kind=9 then decide (3≤d.type) && decide (d.type≤10)
 else if d.kind=22 then decide (1≤d.type) && decide (d.type≤10)
 else if d.kind=23 then decide (0≤d.type) && decide (d.type≤10)
 else true
def Mill.unused (d:Mill.Nd):Bool:=(Mill.uOp d.kind || (d.op == 0)) && (Mill.uType d.kind || (d.type == 0)) && (Mill.uN d.kind || (d.n == 0)) && (Mill.uText d.kind || d.text.toList.isEmpty)
def Mill.fields (d:Mill.Nd):Bool:=Mill.unused d && (!Mill.named d.kind || Mill.nameOk d.text) && Mill.kindOk d
theorem Mill.fields_unused (d:Mill.Nd) (h:Mill.unused d=false):Mill.fields d=false:=by simp [Mill.fields,h]
theorem Mill.nd_cells {w w1:World} {c0 c1 c2 c3 c4 c5:Value} {t:TypeId} (hb:Below (w.heap.size+1) (w.alloc (.cells #[c0,c1,c2,c3,c4,c5] t)) w1) :
  w1.cell? ⟨w.heap.size,0,none⟩=some c0∧w1.cell? ⟨w.heap.size,1,none⟩=some c1∧w1.cell? ⟨w.heap.size,2,none⟩=some c2∧w1.cell? ⟨w.heap.size,3,none⟩=some c3∧w1.cell? ⟨w.heap.size,4,none⟩=some c4∧w1.cell? ⟨w.heap.size,5,none⟩=some c5:=by
 refine ⟨?_, ?_, ?_, ?_, ?_, ?_⟩
 ·rw [hb.cell (p:=⟨w.heap.size,0,none⟩) (by simp)];simp [go_sem]
 ·rw [hb.cell (p:=⟨w.heap.size,1,none⟩) (by simp)];simp [go_sem]
 ·rw [hb.cell (p:=⟨w.heap.size,2,none⟩) (by simp)];simp [go_sem]
 ·rw [hb.cell (p:=⟨w.heap.size,3,none⟩) (by simp)];simp [go_sem]
 ·rw [hb.cell (p:=⟨w.heap.size,4,none⟩) (by simp)];simp [go_sem]
 ·rw [hb.cell (p:=⟨w.heap.size,5,none⟩) (by simp)];simp [go_sem]
theorem Mill.nd_below {w w1:World} {o:Obj} (hb:Below (w.heap.size+1) (w.alloc o) w1):Below w.heap.size w w1:=((Below.refl _ w).alloc (Nat.le_refl _) _).trans (hb.mono (by omega))
theorem l2Fields_2 (o t n:Int) (x:ByteArray) (k:Int) (w:World) :
  Calls Tryz.prog 29 #[Mill.ndV ⟨2,o,t,n,x,k⟩] w fun e w'=>e = .returned (.bool (Mill.fields ⟨2,o,t,n,x,k⟩))∧Below w.heap.size w w':=by
 have HU:Hid (Mill.usesV 2 = .tuple #[.bool false,.bool false,.bool false,.bool true]):=by rw [Hid];rfl
 have HN:Hid (Mill.named 2=false):=by rw [Hid];rfl
 simp only [Mill.ndV]
 go_enter Tryz.func29,Tryz.ntmps29
 go_wp2_with (first
  | (go_at_call 47;refine (l2Uses_any _ _).mono ?_;rintro e w' ⟨rfl,rfl⟩;rw [HU.out])
  | (go_at_call 48;refine (l2Named_any _ _).mono ?_;rintro e w' ⟨rfl,rfl⟩;rw [HN.out]))
 all_goals go_ret
 all_goals refine ⟨Mill.ret_bool ?_, ?_⟩
 all_goals first | exact (Below.refl _ w).alloc (Nat.le_refl _) _ | skip
 all_goals go_light
 all_goals simp_all [Mill.fields,Mill.unused,Mill.kindOk,Mill.uOp,Mill.uType,Mill.uN,Mill.uText,Mill.named]
 all_goals first | omega | (rw [Bool.eq_iff_iff];simp;omega)
theorem l2Fields_3 (o t n:Int) (x:ByteArray) (k:Int) (w:World) :
  Calls Tryz.prog 29 #[Mill.ndV ⟨3,o,t,n,x,k⟩] w fun e w'=>e = .returned (.bool (Mill.fields ⟨3,o,t,n,x,k⟩))∧Below w.heap.size w w':=by
 have HU:Hid (Mill.usesV 3 = .tuple #[.bool false,.bool false,.bool true,.bool false]):=by rw [Hid];rfl
 have HN:Hid (Mill.named 3=false):=by rw [Hid];rfl
 simp only [Mill.ndV]
 go_enter Tryz.func29,Tryz.ntmps29
 go_wp2_with (first
  | (go_at_call 47;refine (l2Uses_any _ _).mono ?_;rintro e w' ⟨rfl,rfl⟩;rw [HU.out])
  | (go_at_call 48;refine (l2Named_any _ _).mono ?_;rintro e w' ⟨rfl,rfl⟩;rw [HN.out]))
 all_goals go_ret
 all_goals refine ⟨Mill.ret_bool ?_, ?_⟩
 all_goals first | exact (Below.refl _ w).alloc (Nat.le_refl _) _ | skip
 all_goals go_light
 all_goals simp_all [Mill.fields,Mill.unused,Mill.kindOk,Mill.uOp,Mill.uType,Mill.uN,Mill.uText,Mill.named]
 all_goals first | omega | (rw [Bool.eq_iff_iff];simp;omega)
theorem l2Fields_4 (o t n:Int) (x:ByteArray) (k:Int) (w:World) :
  Calls Tryz.prog 29 #[Mill.ndV ⟨4,o,t,n,x,k⟩] w fun e w'=>e = .returned (.bool (Mill.fields ⟨4,o,t,n,x,k⟩))∧Below w.heap.size w w':=by
 have HU:Hid (Mill.usesV 4 = .tuple #[.bool false,.bool false,.bool false,.bool true]):=by rw [Hid];rfl
 have HN:Hid (Mill.named 4=true):=by rw [Hid];rfl
 cases hq:Mill.nameOk x
 all_goals
  simp only [Mill.ndV]
  go_enter Tryz.func29,Tryz.ntmps29
  go_wp2_with (first
   | (go_at_call 47;refine (l2Uses_any _ _).mono ?_;rintro e w' ⟨rfl,rfl⟩;rw [HU.out])
   | (go_at_call 48;refine (l2Named_any _ _).mono ?_;rintro e w' ⟨rfl,rfl⟩;rw [HN.out])
   | (go_at_call 49;refine (l1NameOk_any _ _).mono ?_;rintro e w1 ⟨rfl,hb⟩;rw [hq];rw [World.size_alloc] at hb;obtain ⟨g0,g1,g2,g3,g4,g5⟩:=Mill.nd_cells hb))
  all_goals go_ret
  all_goals refine ⟨Mill.ret_bool ?_, ?_⟩
  all_goals first | exact (Below.refl _ w).alloc (Nat.le_refl _) _ | exact Mill.nd_below (by assumption) | skip
  all_goals go_light
  all_goals simp_all [Mill.fields,Mill.unused,Mill.kindOk,Mill.uOp,Mill.uType,Mill.uN,Mill.uText,Mill.named]
  all_goals first | omega | (rw [Bool.eq_iff_iff];simp;omega)
theorem l2Fields_5 (o t n:Int) (x:ByteArray) (k:Int) (w:World) :
  Calls Tryz.prog 29 #[Mill.ndV ⟨5,o,t,n,x,k⟩] w fun e w'=>e = .returned (.bool (Mill.fields ⟨5,o,t,n,x,k⟩))∧Below w.heap.size w w':=by
 have HU:Hid (Mill.usesV 5 = .tuple #[.bool true,.bool false,.bool false,.bool false]):=by rw [Hid];rfl
 have HN:Hid (Mill.named 5=false):=by rw [Hid];rfl
 simp only [Mill.ndV]
 go_enter Tryz.func29,Tryz.ntmps29
 go_wp2_with (first
  | (go_at_call 47;refine (l2Uses_any _ _).mono ?_;rintro e w' ⟨rfl,rfl⟩;rw [HU.out])
  | (go_at_call 48;refine (l2Named_any _ _).mono ?_;rintro e w' ⟨rfl,rfl⟩;rw [HN.out]))
 all_goals go_ret
 all_goals refine ⟨Mill.ret_bool ?_, ?_⟩
 all_goals first | exact (Below.refl _ w).alloc (Nat.le_refl _) _ | skip
 all_goals go_light
 all_goals simp_all [Mill.fields,Mill.unused,Mill.kindOk,Mill.uOp,Mill.uType,Mill.uN,Mill.uText,Mill.named]
 all_goals first | omega | (rw [Bool.eq_iff_iff];simp;omega)
theorem l2Fields_6 (o t n:Int) (x:ByteArray) (k:Int) (w:World) :
  Calls Tryz.prog 29 #[Mill.ndV ⟨6,o,t,n,x,k⟩] w fun e w'=>e = .returned (.bool (Mill.fields ⟨6,o,t,n,x,k⟩))∧Below w.heap.size w w':=by
 have HU:Hid (Mill.usesV 6 = .tuple #[.bool true,.bool false,.bool false,.bool false]):=by rw [Hid];rfl
 have HN:Hid (Mill.named 6=false):=by rw [Hid];rfl
 simp only [Mill.ndV]
 go_enter Tryz.func29,Tryz.ntmps29
 go_wp2_with (first
  | (go_at_call 47;refine (l2Uses_any _ _).mono ?_;rintro e w' ⟨rfl,rfl⟩;rw [HU.out])
  | (go_at_call 48;refine (l2Named_any _ _).mono ?_;rintro e w' ⟨rfl,rfl⟩;rw [HN.out]))
 all_goals go_ret
 all_goals refine ⟨Mill.ret_bool ?_, ?_⟩
 all_goals first | exact (Below.refl _ w).alloc (Nat.le_refl _) _ | skip
 all_goals go_light
 all_goals simp_all [Mill.fields,Mill.unused,Mill.kindOk,Mill.uOp,Mill.uType,Mill.uN,Mill.uText,Mill.named]
 all_goals first | omega | (rw [Bool.eq_iff_iff];simp;omega)
theorem l2Fields_7 (o t n:Int) (x:ByteArray) (k:Int) (w:World) :
  Calls Tryz.prog 29 #[Mill.ndV ⟨7,o,t,n,x,k⟩] w fun e w'=>e = .returned (.bool (Mill.fields ⟨7,o,t,n,x,k⟩))∧Below w.heap.size w w':=by
 have HU:Hid (Mill.usesV 7 = .tuple #[.bool false,.bool false,.bool false,.bool true]):=by rw [Hid];rfl
 have HN:Hid (Mill.named 7=true):=by rw [Hid];rfl
 cases hq:Mill.nameOk x
 all_goals
  simp only [Mill.ndV]
  go_enter Tryz.func29,Tryz.ntmps29
  go_wp2_with (first
   | (go_at_call 47;refine (l2Uses_any _ _).mono ?_;rintro e w' ⟨rfl,rfl⟩;rw [HU.out])
   | (go_at_call 48;refine (l2Named_any _ _).mono ?_;rintro e w' ⟨rfl,rfl⟩;rw [HN.out])
   | (go_at_call 49;refine (l1NameOk_any _ _).mono ?_;rintro e w1 ⟨rfl,hb⟩;rw [hq];rw [World.size_alloc] at hb;obtain ⟨g0,g1,g2,g3,g4,g5⟩:=Mill.nd_cells hb))
  all_goals go_ret
  all_goals refine ⟨Mill.ret_bool ?_, ?_⟩
  all_goals first | exact (Below.refl _ w).alloc (Nat.le_refl _) _ | exact Mill.nd_below (by assumption) | skip
  all_goals go_light
  all_goals simp_all [Mill.fields,Mill.unused,Mill.kindOk,Mill.uOp,Mill.uType,Mill.uN,Mill.uText,Mill.named]
  all_goals first | omega | (rw [Bool.eq_iff_iff];simp;omega)
theorem l2Fields_8 (o t n:Int) (x:ByteArray) (k:Int) (w:World) :
  Calls Tryz.prog 29 #[Mill.ndV ⟨8,o,t,n,x,k⟩] w fun e w'=>e = .returned (.bool (Mill.fields ⟨8,o,t,n,x,k⟩))∧Below w.heap.size w w':=by
 have HU:Hid (Mill.usesV 8 = .tuple #[.bool true,.bool false,.bool false,.bool false]):=by rw [Hid];rfl
 have HN:Hid (Mill.named 8=false):=by rw [Hid];rfl
 simp only [Mill.ndV]
 go_enter Tryz.func29,Tryz.ntmps29
 go_wp2_with (first
  | (go_at_call 47;refine (l2Uses_any _ _).mono ?_;rintro e w' ⟨rfl,rfl⟩;rw [HU.out])
  | (go_at_call 48;refine (l2Named_any _ _).mono ?_;rintro e w' ⟨rfl,rfl⟩;rw [HN.out]))
 all_goals go_ret
 all_goals refine ⟨Mill.ret_bool ?_, ?_⟩
 all_goals first | exact (Below.refl _ w).alloc (Nat.le_refl _) _ | skip
 all_goals go_light
 all_goals simp_all [Mill.fields,Mill.unused,Mill.kindOk,Mill.uOp,Mill.uType,Mill.uN,Mill.uText,Mill.named]
 all_goals first | omega | (rw [Bool.eq_iff_iff];simp;omega)
theorem l2Fields_9 (o t n:Int) (x:ByteArray) (k:Int) (w:World) :
  Calls Tryz.prog 29 #[Mill.ndV ⟨9,o,t,n,x,k⟩] w fun e w'=>e = .returned (.bool (Mill.fields ⟨9,o,t,n,x,k⟩))∧Below w.heap.size w w':=by
 have HU:Hid (Mill.usesV 9 = .tuple #[.bool false,.bool true,.bool false,.bool false]):=by rw [Hid];rfl
 have HN:Hid (Mill.named 9=false):=by rw [Hid];rfl
 simp only [Mill.ndV]
 go_enter Tryz.func29,Tryz.ntmps29
 go_wp2_with (first
  | (go_at_call 47;refine (l2Uses_any _ _).mono ?_;rintro e w' ⟨rfl,rfl⟩;rw [HU.out])
  | (go_at_call 48;refine (l2Named_any _ _).mono ?_;rintro e w' ⟨rfl,rfl⟩;rw [HN.out])
  | (go_at_call 50;refine (l1Integer_any _ _).mono ?_;rintro e w' ⟨rfl,rfl⟩))
 all_goals go_ret
 all_goals refine ⟨Mill.ret_bool ?_, ?_⟩
 all_goals first | exact (Below.refl _ w).alloc (Nat.le_refl _) _ | skip
 all_goals go_light
 all_goals simp_all [Mill.fields,Mill.unused,Mill.kindOk,Mill.uOp,Mill.uType,Mill.uN,Mill.uText,Mill.named]
 all_goals first | omega | (rw [Bool.eq_iff_iff];simp;omega)
theorem l2Fields_10 (o t n:Int) (x:ByteArray) (k:Int) (w:World) :
  Calls Tryz.prog 29 #[Mill.ndV ⟨10,o,t,n,x,k⟩] w fun e w'=>e = .returned (.bool (Mill.fields ⟨10,o,t,n,x,k⟩))∧Below w.heap.size w w':=by
 have HU:Hid (Mill.usesV 10 = .tuple #[.bool false,.bool false,.bool false,.bool true]):=by rw [Hid];rfl
 have HN:Hid (Mill.named 10=true):=by rw [Hid];rfl
 cases hq:Mill.nameOk x
 all_goals
  simp only [Mill.ndV]
  go_enter Tryz.func29,Tryz.ntmps29
  go_wp2_with (first
   | (go_at_call 47;refine (l2Uses_any _ _).mono ?_;rintro e w' ⟨rfl,rfl⟩;rw [HU.out])
   | (go_at_call 48;refine (l2Named_any _ _).mono ?_;rintro e w' ⟨rfl,rfl⟩;rw [HN.out])
   | (go_at_call 49;refine (l1NameOk_any _ _).mono ?_;rintro e w1 ⟨rfl,hb⟩;rw [hq];rw [World.size_alloc] at hb;obtain ⟨g0,g1,g2,g3,g4,g5⟩:=Mill.nd_cells hb))
  all_goals go_ret
  all_goals refine ⟨Mill.ret_bool ?_, ?_⟩
  all_goals first | exact (Below.refl _ w).alloc (Nat.le_refl _) _ | exact Mill.nd_below (by assumption) | skip
  all_goals go_light
  all_goals simp_all [Mill.fields,Mill.unused,Mill.kindOk,Mill.uOp,Mill.uType,Mill.uN,Mill.uText,Mill.named]
  all_goals first | omega | (rw [Bool.eq_iff_iff];simp;omega)
theorem l2Fields_11 (o t n:Int) (x:ByteArray) (k:Int) (w:World) :
  Calls Tryz.prog 29 #[Mill.ndV ⟨11,o,t,n,x,k⟩] w fun e w'=>e = .returned (.bool (Mill.fields ⟨11,o,t,n,x,k⟩))∧Below w.heap.size w w':=by
 have HU:Hid (Mill.usesV 11 = .tuple #[.bool false,.bool false,.bool false,.bool true]):=by rw [Hid];rfl
 have HN:Hid (Mill.named 11=true):=by rw [Hid];rfl
 cases hq:Mill.nameOk x
 all_goals
  simp only [Mill.ndV]
  go_enter Tryz.func29,Tryz.ntmps29
  go_wp2_with (first
   | (go_at_call 47;refine (l2Uses_any _ _).mono ?_;rintro e w' ⟨rfl,rfl⟩;rw [HU.out])
   | (go_at_call 48;refine (l2Named_any _ _).mono ?_;rintro e w' ⟨rfl,rfl⟩;rw [HN.out])
   | (go_at_call 49;refine (l1NameOk_any _ _).mono ?_;rintro e w1 ⟨rfl,hb⟩;rw [hq];rw [World.size_alloc] at hb;obtain ⟨g0,g1,g2,g3,g4,g5⟩:=Mill.nd_cells hb))
  all_goals go_ret
  all_goals refine ⟨Mill.ret_bool ?_, ?_⟩
  all_goals first | exact (Below.refl _ w).alloc (Nat.le_refl _) _ | exact Mill.nd_below (by assumption) | skip
  all_goals go_light
  all_goals simp_all [Mill.fields,Mill.unused,Mill.kindOk,Mill.uOp,Mill.uType,Mill.uN,Mill.uText,Mill.named]
  all_goals first | omega | (rw [Bool.eq_iff_iff];simp;omega)
theorem l2Fields_22 (o t n:Int) (x:ByteArray) (k:Int) (w:World) :
  Calls Tryz.prog 29 #[Mill.ndV ⟨22,o,t,n,x,k⟩] w fun e w'=>e = .returned (.bool (Mill.fields ⟨22,o,t,n,x,k⟩))∧Below w.heap.size w w':=by
 have HU:Hid (Mill.usesV 22 = .tuple #[.bool false,.bool true,.bool false,.bool true]):=by rw [Hid];rfl
 have HN:Hid (Mill.named 22=true):=by rw [Hid];rfl
 cases hq:Mill.nameOk x
 all_goals
  simp only [Mill.ndV]
  go_enter Tryz.func29,Tryz.ntmps29
  go_wp2_with (first
   | (go_at_call 47;refine (l2Uses_any _ _).mono ?_;rintro e w' ⟨rfl,rfl⟩;rw [HU.out])
   | (go_at_call 48;refine (l2Named_any _ _).mono ?_;rintro e w' ⟨rfl,rfl⟩;rw [HN.out])
   | (go_at_call 49;refine (l1NameOk_any _ _).mono ?_;rintro e w1 ⟨rfl,hb⟩;rw [hq];rw [World.size_alloc] at hb;obtain ⟨g0,g1,g2,g3,g4,g5⟩:=Mill.nd_cells hb))
  all_goals go_ret
  all_goals refine ⟨Mill.ret_bool ?_, ?_⟩
  all_goals first | exact (Below.refl _ w).alloc (Nat.le_refl _) _ | exact Mill.nd_below (by assumption) | skip
  all_goals go_light
  all_goals simp_all [Mill.fields,Mill.unused,Mill.kindOk,Mill.uOp,Mill.uType,Mill.uN,Mill.uText,Mill.named]
  all_goals first | omega | (rw [Bool.eq_iff_iff];simp;omega)
theorem l2Fields_23 (o t n:Int) (x:ByteArray) (k:Int) (w:World) :
  Calls Tryz.prog 29 #[Mill.ndV ⟨23,o,t,n,x,k⟩] w fun e w'=>e = .returned (.bool (Mill.fields ⟨23,o,t,n,x,k⟩))∧Below w.heap.size w w':=by
 have HU:Hid (Mill.usesV 23 = .tuple #[.bool false,.bool true,.bool false,.bool true]):=by rw [Hid];rfl
 have HN:Hid (Mill.named 23=true):=by rw [Hid];rfl
 cases hq:Mill.nameOk x
 all_goals
  simp only [Mill.ndV]
  go_enter Tryz.func29,Tryz.ntmps29
  go_wp2_with (first
   | (go_at_call 47;refine (l2Uses_any _ _).mono ?_;rintro e w' ⟨rfl,rfl⟩;rw [HU.out])
   | (go_at_call 48;refine (l2Named_any _ _).mono ?_;rintro e w' ⟨rfl,rfl⟩;rw [HN.out])
   | (go_at_call 49;refine (l1NameOk_any _ _).mono ?_;rintro e w1 ⟨rfl,hb⟩;rw [hq];rw [World.size_alloc] at hb;obtain ⟨g0,g1,g2,g3,g4,g5⟩:=Mill.nd_cells hb))
  all_goals go_ret
  all_goals refine ⟨Mill.ret_bool ?_, ?_⟩
  all_goals first | exact (Below.refl _ w).alloc (Nat.le_refl _) _ | exact Mill.nd_below (by assumption) | skip
  all_goals go_light
  all_goals simp_all [Mill.fields,Mill.unused,Mill.kindOk,Mill.uOp,Mill.uType,Mill.uN,Mill.uText,Mill.named]
  all_goals first | omega | (rw [Bool.eq_iff_iff];simp;omega)
theorem Mill.quiet {P:Program} {f:FuncId} {args:Array Value} {w:World} {n:Nat} {v:Value}
  (h:Calls P f args (w.drewN n) fun e w'=>e = .returned v∧w.drewN n=w'):Calls P f args (w.drewN n) fun e w''=>e = .returned v∧∃ m,w''=w.drewN m :=
 h.mono fun _ _ ⟨he,hm⟩=>⟨he,n,hm.symm⟩
theorem Mill.below_drewN {B:Nat} {a w:World} (n:Nat) (h:Below B a w):Below B a (w.drewN n):=⟨h.os,h.tape,h.output,h.size,h.block⟩
theorem l1Integer_is (t:Int) (b:Bool) (h:Hid ((decide (3≤t) && decide (t≤10))=b)) (w:World) :
  Calls Tryz.prog 50 #[.int .i64 t] w fun e w'=>e = .returned (.bool b)∧w=w':=by
 rw [← h.out];exact l1Integer_any t w
theorem l2Fields_1 (o t n:Int) (x:ByteArray) (k:Int) (w:World) :
  Calls Tryz.prog 29 #[Mill.ndV ⟨1,o,t,n,x,k⟩] w fun e w'=>e = .returned (.bool (Mill.fields ⟨1,o,t,n,x,k⟩))∧Below w.heap.size w w':=by
 have HU:Hid (Mill.usesV 1 = .tuple #[.bool false,.bool true,.bool true,.bool false]):=by rw [Hid];rfl
 have HN:Hid (Mill.named 1=false):=by rw [Hid];rfl
 simp only [Mill.ndV]
 by_cases ho:o=0
 ·by_cases hx:x.toList.isEmpty=true
  ·have hx':(!x.toList.isEmpty)=false:=by simp [hx]
   have ho':(o != 0)=false:=by simp [ho]
   cases hq:(decide (3≤t) && decide (t≤10)) with
   | false =>
    have HF:Hid (Mill.fields ⟨1,o,t,n,x,k⟩=false):=by rw [Hid,Mill.fields,Mill.kindOk];simp only [if_true,hq,Bool.false_and,Bool.and_false]
    have HQ:Hid ((decide (3≤t) && decide (t≤10))=false):=hq
    clear hq
    go_enter Tryz.func29,Tryz.ntmps29
    go_wp2_with (first
     | (go_at_call 47;refine (l2Uses_any _ _).mono ?_;rintro e w' ⟨rfl,rfl⟩;rw [HU.out])
     | (go_at_call 48;refine (l2Named_any _ _).mono ?_;rintro e w' ⟨rfl,rfl⟩;rw [HN.out]))
    go_quiet (first | (go_at_call 50;refine Mill.quiet (l1Integer_is _ false HQ _)))
    go_wp2
    go_ret
    exact ⟨Mill.ret_bool HF.out.symm,Mill.below_drewN _ ((Below.refl _ w).alloc (Nat.le_refl _) _)⟩
   | true =>
    have HF:Hid (Mill.fields ⟨1,o,t,n,x,k⟩=decide (IntKind.u64.wrap n≤Mill.maxOf t)):=by
     rw [Hid,Mill.fields,Mill.kindOk];simp only [if_true,hq,Bool.true_and];simp [Mill.unused,Mill.uOp,Mill.uType,Mill.uN,Mill.uText,Mill.named,ho,hx]
    have HQ:Hid ((decide (3≤t) && decide (t≤10))=true):=hq
    clear hq
    go_enter Tryz.func29,Tryz.ntmps29
    go_wp2_with (first
     | (go_at_call 47;refine (l2Uses_any _ _).mono ?_;rintro e w' ⟨rfl,rfl⟩;rw [HU.out])
     | (go_at_call 48;refine (l2Named_any _ _).mono ?_;rintro e w' ⟨rfl,rfl⟩;rw [HN.out]))
    go_quiet (first | (go_at_call 50;refine Mill.quiet (l1Integer_is _ true HQ _)) | (go_at_call 51;refine Mill.quiet (l1Max_any _ _)))
    go_wp2
    go_ret
    exact ⟨Mill.ret_bool HF.out.symm,Mill.below_drewN _ ((Below.refl _ w).alloc (Nat.le_refl _) _)⟩
  ·have HF:Hid (Mill.fields ⟨1,o,t,n,x,k⟩=false):=by rw [Hid];exact Mill.fields_unused _ (by simp [Mill.unused,Mill.uText,Mill.named];intro _ _ _;simpa using hx)
   have hx':(!x.toList.isEmpty)=true:=by simpa using hx
   have ho':(o != 0)=false:=by simp [ho]
   go_enter Tryz.func29,Tryz.ntmps29
   go_wp2_with (first
    | (go_at_call 47;refine (l2Uses_any _ _).mono ?_;rintro e w' ⟨rfl,rfl⟩;rw [HU.out]))
   go_ret
   exact ⟨Mill.ret_bool HF.out.symm,(Below.refl _ w).alloc (Nat.le_refl _) _⟩
 ·have HF:Hid (Mill.fields ⟨1,o,t,n,x,k⟩=false):=by rw [Hid];exact Mill.fields_unused _ (by simp [Mill.unused,Mill.uOp,ho])
  have ho':(o != 0)=true:=by simpa using ho
  go_enter Tryz.func29,Tryz.ntmps29
  go_wp2_with (first
   | (go_at_call 47;refine (l2Uses_any _ _).mono ?_;rintro e w' ⟨rfl,rfl⟩;rw [HU.out]))
  go_ret
  exact ⟨Mill.ret_bool HF.out.symm,(Below.refl _ w).alloc (Nat.le_refl _) _⟩
def Mill.plainKind (c:Int):Prop:=c≠1∧c≠2∧c≠3∧c≠4∧c≠5∧c≠6∧c≠7∧c≠8∧c≠9∧c≠10∧c≠11∧c≠22∧c≠23
theorem l2Fields_other (c o t n:Int) (x:ByteArray) (k:Int) (w:World) (hc:Mill.plainKind c) :
  Calls Tryz.prog 29 #[Mill.ndV ⟨c,o,t,n,x,k⟩] w fun e w'=>e = .returned (.bool (Mill.fields ⟨c,o,t,n,x,k⟩))∧Below w.heap.size w w':=by
 obtain ⟨c1,c2,c3,c4,c5,c6,c7,c8,c9,c10,c11,c22,c23⟩:=hc
 have HN:Hid (Mill.named c=false):=by rw [Hid];simp [Mill.named,c4,c7,c10,c11,c22,c23]
 have HU:Hid (Mill.usesV c = .tuple #[.bool false,.bool false,.bool false,.bool false]):=by rw [Hid];simp [Mill.usesV,Mill.uOp,Mill.uType,Mill.uN,Mill.uText,HN.out,c1,c2,c3,c5,c6,c8,c9,c22,c23]
 have HK:Hid (Mill.fields ⟨c,o,t,n,x,k⟩=((o == 0) && (t == 0) && (n == 0) && x.toList.isEmpty)):=by
  rw [Hid];simp [Mill.fields,Mill.unused,Mill.kindOk,Mill.uOp,Mill.uType,Mill.uN,Mill.uText,HN.out,c1,c2,c3,c5,c6,c8,c9,c22,c23]
 simp only [Mill.ndV]
 go_enter Tryz.func29,Tryz.ntmps29
 go_wp2_with (first
  | (go_at_call 47;refine (l2Uses_any _ _).mono ?_;rintro e w' ⟨rfl,rfl⟩;rw [HU.out])
  | (go_at_call 48;refine (l2Named_any _ _).mono ?_;rintro e w' ⟨rfl,rfl⟩;rw [HN.out]))
 all_goals go_ret
 all_goals refine ⟨Mill.ret_bool ?_,(Below.refl _ w).alloc (Nat.le_refl _) _⟩
 all_goals rw [HK.out]
 all_goals go_light
 all_goals simp_all
theorem Mill.kinds25 (c:Int):c=1∨c=2∨c=3∨c=4∨c=5∨c=6∨c=7∨c=8∨c=9∨c=10∨c=11∨c=22∨c=23∨Mill.plainKind c:=by
 unfold Mill.plainKind;omega
theorem l2Fields_any (d:Mill.Nd) (w:World) :
  Calls Tryz.prog 29 #[Mill.ndV d] w fun e w'=>e = .returned (.bool (Mill.fields d))∧Below w.heap.size w w':=by
 obtain ⟨c,o,t,n,x,k⟩:=d
 rcases Mill.kinds25 c with rfl | rfl | rfl | rfl | rfl | rfl | rfl | rfl | rfl | rfl | rfl | rfl | rfl | h
 ·exact l2Fields_1 o t n x k w
 ·exact l2Fields_2 o t n x k w
 ·exact l2Fields_3 o t n x k w
 ·exact l2Fields_4 o t n x k w
 ·exact l2Fields_5 o t n x k w
 ·exact l2Fields_6 o t n x k w
 ·exact l2Fields_7 o t n x k w
 ·exact l2Fields_8 o t n x k w
 ·exact l2Fields_9 o t n x k w
 ·exact l2Fields_10 o t n x k w
 ·exact l2Fields_11 o t n x k w
 ·exact l2Fields_22 o t n x k w
 ·exact l2Fields_23 o t n x k w
 ·exact l2Fields_other c o t n x k w h
def Mill.ints (ks:List Int):List Value:=ks.map (fun x=>Value.int .i64 x)
theorem Mill.ints_at {w:World} {B n:Nat} {v:Value} {ks:List Int} {e:TypeId} (h:w.ownsRow B e 1 v n (Mill.ints ks)) (hn:ks.length=n) :
  ∃ a cap,v = .slice a n cap∧∀ i (hi:i < n),∃ g,a=some ⟨g,0,none⟩∧B≤g∧g < w.heap.size∧w.cell? ⟨g,i,none⟩=some (.int .i64 (ks[i]'(hn ▸ hi))):=by
 rcases h.2 with ⟨rfl,h0⟩ | ⟨g,cap,cur,rfl,hg,hgg,_⟩
 ·exact ⟨none,0,by rw [h0],fun i hi=>by omega⟩
 ·refine ⟨_,_,rfl,fun i hi=>⟨g,rfl,hg,(Array.getElem?_eq_some_iff.1 hgg).1, ?_⟩⟩
  rw [h.cellAt i (by omega)]
  simp [Mill.ints,hn,hi]
theorem l2AllE_any (ks:List Int) (v:Value) (B n:Nat) (HN:Hid (ks.length=n)) (w:World) (h:w.ownsRow B 3 1 v n (Mill.ints ks)) (hl:n≤1000000) :
  Calls Tryz.prog 53 #[v] w fun e w'=>e = .returned (.bool (ks.all Mill.isE))∧w=w':=by
 obtain ⟨a,cap,rfl,hc⟩:=Mill.ints_at h HN.out
 clear h
 go_enter Tryz.func53,Tryz.ntmps53
 go_wp2
 go_loop [3] (fun t => ∃ i:Nat,i≤n∧t = .int .i64 (i:Int)∧(ks.drop i).all Mill.isE=ks.all Mill.isE) (fun t=>n - (intOf t).toNat)
 case atStart=>exact ⟨0,by omega,rfl,rfl⟩
 case round =>
  obtain ⟨i,hi,rfl,hf⟩:=hrel
  by_cases hlt:i < n
  ·obtain ⟨g,rfl,_,_,hcell⟩:=hc i hlt
   have hil:i < ks.length:=by rw [HN.out];exact hlt
   rw [List.drop_eq_getElem_cons hil,List.all_cons] at hf
   clear hc
   cases hE:Mill.isE ks[i] with
   | true =>
    have HF:Hid ((ks.drop (i+1)).all Mill.isE=ks.all Mill.isE):=by rw [hE] at hf;exact hf
    clear hf
    generalize ks[i]=x at *
    go_wp2_with (go_at_call 52;refine (l2E_any _ _).mono ?_;rintro e w' ⟨rfl,rfl⟩;rw [hE])
    go_round
    case rel=>exact ⟨i+1,by omega,by go_num,HF.out⟩
    case measure=>simp [intOf];omega
   | false =>
    have HF:Hid (ks.all Mill.isE=false):=by rw [hE] at hf;rw [Hid,← hf];rfl
    clear hf
    generalize ks[i]=x at *
    go_wp2_with (go_at_call 52;refine (l2E_any _ _).mono ?_;rintro e w' ⟨rfl,rfl⟩;rw [hE])
    go_ret
    exact ⟨Mill.ret_bool HF.out.symm,rfl⟩
  ·have HF:Hid (ks.all Mill.isE=true):=by
    rw [List.drop_of_length_le (by rw [HN.out];omega)] at hf;rw [Hid,← hf];rfl
   clear hf hc
   go_wp2
   go_ret
   exact ⟨Mill.ret_bool HF.out.symm,rfl⟩
def Mill.oneE (ks:List Int):Bool:=match ks with | [a]=>Mill.isE a | _=>false
def Mill.ifK (ks:List Int):Bool:=match ks with | [a,b]=>Mill.isE a && (b == 21) | [a,b,c]=>Mill.isE a && (b == 21) && ((c == 21) || (c == 12)) | _=>false
def Mill.whileK (ks:List Int):Bool:=match ks with | [a,b]=>Mill.isE a && (b == 21) | _=>false
def Mill.doK (ks:List Int):Bool:=match ks with | [a]=>(a == 7) | _=>false
def Mill.fnK (ks:List Int):Bool:=match ks.getLast? with | none=>false | some l=>(l == 21) && decide (ks.length≤9) && ks.dropLast.all (fun k=>k == 22)
def Mill.fits (kind op:Int) (ks:List Int):Bool :=
 if kind=1∨kind=2∨kind=3∨kind=4∨kind=14∨kind=15∨kind=22 then decide (ks.length=0)
 else if kind=5∨kind=9∨kind=10∨kind=11∨kind=17∨kind=19 then Mill.oneE ks
 else if kind=6∨kind=18 then decide (ks.length=2) && ks.all Mill.isE
 else if kind=7 then decide (ks.length≤8) && ks.all Mill.isE
 else if kind=8 then decide ((ks.length:Int)=Mill.builtKids op) && ks.all Mill.isE
 else if kind=12 then Mill.ifK ks
 else if kind=13 then Mill.whileK ks
 else if kind=16 then decide (ks.length≤1) && ks.all Mill.isE
 else if kind=20 then Mill.doK ks
 else if kind=21 then ks.all Mill.isS
 else if kind=23 then Mill.fnK ks
 else if kind=24 then ks.all (fun k=>k == 23) && decide (1≤ks.length) && decide (ks.length≤60)
 else false
theorem l2Fits_1 (o t y:Int) (x:ByteArray) (k:Int) (ks:List Int) (v:Value) (B n:Nat) (HN:Hid (ks.length=n)) (w:World) (h:w.ownsRow B 3 1 v n (Mill.ints ks)) (_hl:n≤1000000) :
  Calls Tryz.prog 30 #[Mill.ndV ⟨1,o,t,y,x,k⟩,v] w fun e w'=>e = .returned (.bool (Mill.fits 1 o ks))∧Below w.heap.size w w':=by
 have HF:Hid (Mill.fits 1 o ks=((n:Int) == 0)):=by rw [Hid,Bool.eq_iff_iff];simp [Mill.fits,← HN.out]
 obtain ⟨a,cap,rfl,_⟩:=Mill.ints_at h HN.out
 clear h
 simp only [Mill.ndV]
 go_enter Tryz.func30,Tryz.ntmps30
 go_wp2
 go_ret
 exact ⟨Mill.ret_bool HF.out.symm,(Below.refl _ w).alloc (Nat.le_refl _) _⟩
theorem l2Fits_2 (o t y:Int) (x:ByteArray) (k:Int) (ks:List Int) (v:Value) (B n:Nat) (HN:Hid (ks.length=n)) (w:World) (h:w.ownsRow B 3 1 v n (Mill.ints ks)) (_hl:n≤1000000) :
  Calls Tryz.prog 30 #[Mill.ndV ⟨2,o,t,y,x,k⟩,v] w fun e w'=>e = .returned (.bool (Mill.fits 2 o ks))∧Below w.heap.size w w':=by
 have HF:Hid (Mill.fits 2 o ks=((n:Int) == 0)):=by rw [Hid,Bool.eq_iff_iff];simp [Mill.fits,← HN.out]
 obtain ⟨a,cap,rfl,_⟩:=Mill.ints_at h HN.out
 clear h
 simp only [Mill.ndV]
 go_enter Tryz.func30,Tryz.ntmps30
 go_wp2
 go_ret
 exact ⟨Mill.ret_bool HF.out.symm,(Below.refl _ w).alloc (Nat.le_refl _) _⟩
theorem l2Fits_3 (o t y:Int) (x:ByteArray) (k:Int) (ks:List Int) (v:Value) (B n:Nat) (HN:Hid (ks.length=n)) (w:World) (h:w.ownsRow B 3 1 v n (Mill.ints ks)) (_hl:n≤1000000) :
  Calls Tryz.prog 30 #[Mill.ndV ⟨3,o,t,y,x,k⟩,v] w fun e w'=>e = .returned (.bool (Mill.fits 3 o ks))∧Below w.heap.size w w':=by
 have HF:Hid (Mill.fits 3 o ks=((n:Int) == 0)):=by rw [Hid,Bool.eq_iff_iff];simp [Mill.fits,← HN.out]
 obtain ⟨a,cap,rfl,_⟩:=Mill.ints_at h HN.out
 clear h
 simp only [Mill.ndV]
 go_enter Tryz.func30,Tryz.ntmps30
 go_wp2
 go_ret
 exact ⟨Mill.ret_bool HF.out.symm,(Below.refl _ w).alloc (Nat.le_refl _) _⟩
theorem l2Fits_4 (o t y:Int) (x:ByteArray) (k:Int) (ks:List Int) (v:Value) (B n:Nat) (HN:Hid (ks.length=n)) (w:World) (h:w.ownsRow B 3 1 v n (Mill.ints ks)) (_hl:n≤1000000) :
  Calls Tryz.prog 30 #[Mill.ndV ⟨4,o,t,y,x,k⟩,v] w fun e w'=>e = .returned (.bool (Mill.fits 4 o ks))∧Below w.heap.size w w':=by
 have HF:Hid (Mill.fits 4 o ks=((n:Int) == 0)):=by rw [Hid,Bool.eq_iff_iff];simp [Mill.fits,← HN.out]
 obtain ⟨a,cap,rfl,_⟩:=Mill.ints_at h HN.out
 clear h
 simp only [Mill.ndV]
 go_enter Tryz.func30,Tryz.ntmps30
 go_wp2
 go_ret
 exact ⟨Mill.ret_bool HF.out.symm,(Below.refl _ w).alloc (Nat.le_refl _) _⟩
theorem l2Fits_14 (o t y:Int) (x:ByteArray) (k:Int) (ks:List Int) (v:Value) (B n:Nat) (HN:Hid (ks.length=n)) (w:World) (h:w.ownsRow B 3 1 v n (Mill.ints ks)) (_hl:n≤1000000) :
  Calls Tryz.prog 30 #[Mill.ndV ⟨14,o,t,y,x,k⟩,v] w fun e w'=>e = .returned (.bool (Mill.fits 14 o ks))∧Below w.heap.size w w':=by
 have HF:Hid (Mill.fits 14 o ks=((n:Int) == 0)):=by rw [Hid,Bool.eq_iff_iff];simp [Mill.fits,← HN.out]
 obtain ⟨a,cap,rfl,_⟩:=Mill.ints_at h HN.out
 clear h
 simp only [Mill.ndV]
 go_enter Tryz.func30,Tryz.ntmps30
 go_wp2
 go_ret
 exact ⟨Mill.ret_bool HF.out.symm,(Below.refl _ w).alloc (Nat.le_refl _) _⟩
theorem l2Fits_15 (o t y:Int) (x:ByteArray) (k:Int) (ks:List Int) (v:Value) (B n:Nat) (HN:Hid (ks.length=n)) (w:World) (h:w.ownsRow B 3 1 v n (Mill.ints ks)) (_hl:n≤1000000) :
  Calls Tryz.prog 30 #[Mill.ndV ⟨15,o,t,y,x,k⟩,v] w fun e w'=>e = .returned (.bool (Mill.fits 15 o ks))∧Below w.heap.size w w':=by
 have HF:Hid (Mill.fits 15 o ks=((n:Int) == 0)):=by rw [Hid,Bool.eq_iff_iff];simp [Mill.fits,← HN.out]
 obtain ⟨a,cap,rfl,_⟩:=Mill.ints_at h HN.out
 clear h
 simp only [Mill.ndV]
 go_enter Tryz.func30,Tryz.ntmps30
 go_wp2
 go_ret
 exact ⟨Mill.ret_bool HF.out.symm,(Below.refl _ w).alloc (Nat.le_refl _) _⟩
theorem l2Fits_22 (o t y:Int) (x:ByteArray) (k:Int) (ks:List Int) (v:Value) (B n:Nat) (HN:Hid (ks.length=n)) (w:World) (h:w.ownsRow B 3 1 v n (Mill.ints ks)) (_hl:n≤1000000) :
  Calls Tryz.prog 30 #[Mill.ndV ⟨22,o,t,y,x,k⟩,v] w fun e w'=>e = .returned (.bool (Mill.fits 22 o ks))∧Below w.heap.size w w':=by
 have HF:Hid (Mill.fits 22 o ks=((n:Int) == 0)):=by rw [Hid,Bool.eq_iff_iff];simp [Mill.fits,← HN.out]
 obtain ⟨a,cap,rfl,_⟩:=Mill.ints_at h HN.out
 clear h
 simp only [Mill.ndV]
 go_enter Tryz.func30,Tryz.ntmps30
 go_wp2
 go_ret
 exact ⟨Mill.ret_bool HF.out.symm,(Below.refl _ w).alloc (Nat.le_refl _) _⟩
theorem l2Fits_5 (o t y:Int) (x:ByteArray) (k:Int) (ks:List Int) (v:Value) (B n:Nat) (HN:Hid (ks.length=n)) (w:World) (h:w.ownsRow B 3 1 v n (Mill.ints ks)) (_hl:n≤1000000) :
  Calls Tryz.prog 30 #[Mill.ndV ⟨5,o,t,y,x,k⟩,v] w fun e w'=>e = .returned (.bool (Mill.fits 5 o ks))∧Below w.heap.size w w':=by
 obtain ⟨a,cap,rfl,hc⟩:=Mill.ints_at h HN.out
 clear h
 by_cases h1:n=1
 ·obtain ⟨g,rfl,_,hg2,hcell⟩:=hc 0 (by omega)
  have h0:0 < ks.length:=by rw [HN.out];omega
  have HF:Hid (Mill.fits 5 o ks=Mill.isE ks[0]):=by
   have hlen:=HN.out
   match ks,h0,hlen with
   | [a],_,_=>rw [Hid];simp [Mill.fits,Mill.oneE]
   | a::b::r,_,hlen=>simp at hlen;omega
  generalize ks[0]=z at *
  clear hc
  have h1':(n:Int)=1:=by omega
  simp only [Mill.ndV]
  go_enter Tryz.func30,Tryz.ntmps30
  go_wp2_with (go_at_call 52;refine (l2E_any _ _).mono ?_;rintro e w' ⟨rfl,rfl⟩)
  go_ret
  exact ⟨Mill.ret_bool HF.out.symm,(Below.refl _ w).alloc (Nat.le_refl _) _⟩
 ·have HF:Hid (Mill.fits 5 o ks=false):=by
   have hlen:=HN.out
   match ks,hlen with
   | [],_=>rw [Hid];simp [Mill.fits,Mill.oneE]
   | [a],hlen=>simp at hlen;omega
   | a::b::r,_=>rw [Hid];simp [Mill.fits,Mill.oneE]
  clear hc
  have h1':((n:Int) == 1)=false:=by simpa using (by omega:¬ (n:Int)=1)
  simp only [Mill.ndV]
  go_enter Tryz.func30,Tryz.ntmps30
  go_wp2_with (go_at_call 52;refine (l2E_any _ _).mono ?_;rintro e w' ⟨rfl,rfl⟩)
  go_ret
  exact ⟨Mill.ret_bool HF.out.symm,(Below.refl _ w).alloc (Nat.le_refl _) _⟩
theorem l2Fits_9 (o t y:Int) (x:ByteArray) (k:Int) (ks:List Int) (v:Value) (B n:Nat) (HN:Hid (ks.length=n)) (w:World) (h:w.ownsRow B 3 1 v n (Mill.ints ks)) (_hl:n≤1000000) :
  Calls Tryz.prog 30 #[Mill.ndV ⟨9,o,t,y,x,k⟩,v] w fun e w'=>e = .returned (.bool (Mill.fits 9 o ks))∧Below w.heap.size w w':=by
 obtain ⟨a,cap,rfl,hc⟩:=Mill.ints_at h HN.out
 clear h
 by_cases h1:n=1
 ·obtain ⟨g,rfl,_,hg2,hcell⟩:=hc 0 (by omega)
  have h0:0 < ks.length:=by rw [HN.out];omega
  have HF:Hid (Mill.fits 9 o ks=Mill.isE ks[0]):=by
   have hlen:=HN.out
   match ks,h0,hlen with
   | [a],_,_=>rw [Hid];simp [Mill.fits,Mill.oneE]
   | a::b::r,_,hlen=>simp at hlen;omega
  generalize ks[0]=z at *
  clear hc
  have h1':(n:Int)=1:=by omega
  simp only [Mill.ndV]
  go_enter Tryz.func30,Tryz.ntmps30
  go_wp2_with (go_at_call 52;refine (l2E_any _ _).mono ?_;rintro e w' ⟨rfl,rfl⟩)
  go_ret
  exact ⟨Mill.ret_bool HF.out.symm,(Below.refl _ w).alloc (Nat.le_refl _) _⟩
 ·have HF:Hid (Mill.fits 9 o ks=false):=by
   have hlen:=HN.out
   match ks,hlen with
   | [],_=>rw [Hid];simp [Mill.fits,Mill.oneE]
   | [a],hlen=>simp at hlen;omega
   | a::b::r,_=>rw [Hid];simp [Mill.fits,Mill.oneE]
  clear hc
  have h1':((n:Int) == 1)=false:=by simpa using (by omega:¬ (n:Int)=1)
  simp only [Mill.ndV]
  go_enter Tryz.func30,Tryz.ntmps30
  go_wp2_with (go_at_call 52;refine (l2E_any _ _).mono ?_;rintro e w' ⟨rfl,rfl⟩)
  go_ret
  exact ⟨Mill.ret_bool HF.out.symm,(Below.refl _ w).alloc (Nat.le_refl _) _⟩
theorem l2Fits_10 (o t y:Int) (x:ByteArray) (k:Int) (ks:List Int) (v:Value) (B n:Nat) (HN:Hid (ks.length=n)) (w:World) (h:w.ownsRow B 3 1 v n (Mill.ints ks)) (_hl:n≤1000000) :
  Calls Tryz.prog 30 #[Mill.ndV ⟨10,o,t,y,x,k⟩,v] w fun e w'=>e = .returned (.bool (Mill.fits 10 o ks))∧Below w.heap.size w w':=by
 obtain ⟨a,cap,rfl,hc⟩:=Mill.ints_at h HN.out
 clear h
 by_cases h1:n=1
 ·obtain ⟨g,rfl,_,hg2,hcell⟩:=hc 0 (by omega)
  have h0:0 < ks.length:=by rw [HN.out];omega
  have HF:Hid (Mill.fits 10 o ks=Mill.isE ks[0]):=by
   have hlen:=HN.out
   match ks,h0,hlen with
   | [a],_,_=>rw [Hid];simp [Mill.fits,Mill.oneE]
   | a::b::r,_,hlen=>simp at hlen;omega
  generalize ks[0]=z at *
  clear hc
  have h1':(n:Int)=1:=by omega
  simp only [Mill.ndV]
  go_enter Tryz.func30,Tryz.ntmps30
  go_wp2_with (go_at_call 52;refine (l2E_any _ _).mono ?_;rintro e w' ⟨rfl,rfl⟩)
  go_ret
  exact ⟨Mill.ret_bool HF.out.symm,(Below.refl _ w).alloc (Nat.le_refl _) _⟩
 ·have HF:Hid (Mill.fits 10 o ks=false):=by
   have hlen:=HN.out
   match ks,hlen with
   | [],_=>rw [Hid];simp [Mill.fits,Mill.oneE]
   | [a],hlen=>simp at hlen;omega
   | a::b::r,_=>rw [Hid];simp [Mill.fits,Mill.oneE]
  clear hc
  have h1':((n:Int) == 1)=false:=by simpa using (by omega:¬ (n:Int)=1)
  simp only [Mill.ndV]
  go_enter Tryz.func30,Tryz.ntmps30
  go_wp2_with (go_at_call 52;refine (l2E_any _ _).mono ?_;rintro e w' ⟨rfl,rfl⟩)
  go_ret
  exact ⟨Mill.ret_bool HF.out.symm,(Below.refl _ w).alloc (Nat.le_refl _) _⟩
theorem l2Fits_11 (o t y:Int) (x:ByteArray) (k:Int) (ks:List Int) (v:Value) (B n:Nat) (HN:Hid (ks.length=n)) (w:World) (h:w.ownsRow B 3 1 v n (Mill.ints ks)) (_hl:n≤1000000) :
  Calls Tryz.prog 30 #[Mill.ndV ⟨11,o,t,y,x,k⟩,v] w fun e w'=>e = .returned (.bool (Mill.fits 11 o ks))∧Below w.heap.size w w':=by
 obtain ⟨a,cap,rfl,hc⟩:=Mill.ints_at h HN.out
 clear h
 by_cases h1:n=1
 ·obtain ⟨g,rfl,_,hg2,hcell⟩:=hc 0 (by omega)
  have h0:0 < ks.length:=by rw [HN.out];omega
  have HF:Hid (Mill.fits 11 o ks=Mill.isE ks[0]):=by
   have hlen:=HN.out
   match ks,h0,hlen with
   | [a],_,_=>rw [Hid];simp [Mill.fits,Mill.oneE]
   | a::b::r,_,hlen=>simp at hlen;omega
  generalize ks[0]=z at *
  clear hc
  have h1':(n:Int)=1:=by omega
  simp only [Mill.ndV]
  go_enter Tryz.func30,Tryz.ntmps30
  go_wp2_with (go_at_call 52;refine (l2E_any _ _).mono ?_;rintro e w' ⟨rfl,rfl⟩)
  go_ret
  exact ⟨Mill.ret_bool HF.out.symm,(Below.refl _ w).alloc (Nat.le_refl _) _⟩
 ·have HF:Hid (Mill.fits 11 o ks=false):=by
   have hlen:=HN.out
   match ks,hlen with
   | [],_=>rw [Hid];simp [Mill.fits,Mill.oneE]
   | [a],hlen=>simp at hlen;omega
   | a::b::r,_=>rw [Hid];simp [Mill.fits,Mill.oneE]
  clear hc
  have h1':((n:Int) == 1)=false:=by simpa using (by omega:¬ (n:Int)=1)
  simp only [Mill.ndV]
  go_enter Tryz.func30,Tryz.ntmps30
  go_wp2_with (go_at_call 52;refine (l2E_any _ _).mono ?_;rintro e w' ⟨rfl,rfl⟩)
  go_ret
  exact ⟨Mill.ret_bool HF.out.symm,(Below.refl _ w).alloc (Nat.le_refl _) _⟩
theorem l2Fits_17 (o t y:Int) (x:ByteArray) (k:Int) (ks:List Int) (v:Value) (B n:Nat) (HN:Hid (ks.length=n)) (w:World) (h:w.ownsRow B 3 1 v n (Mill.ints ks)) (_hl:n≤1000000) :
  Calls Tryz.prog 30 #[Mill.ndV ⟨17,o,t,y,x,k⟩,v] w fun e w'=>e = .returned (.bool (Mill.fits 17 o ks))∧Below w.heap.size w w':=by
 obtain ⟨a,cap,rfl,hc⟩:=Mill.ints_at h HN.out
 clear h
 by_cases h1:n=1
 ·obtain ⟨g,rfl,_,hg2,hcell⟩:=hc 0 (by omega)
  have h0:0 < ks.length:=by rw [HN.out];omega
  have HF:Hid (Mill.fits 17 o ks=Mill.isE ks[0]):=by
   have hlen:=HN.out
   match ks,h0,hlen with
   | [a],_,_=>rw [Hid];simp [Mill.fits,Mill.oneE]
   | a::b::r,_,hlen=>simp at hlen;omega
  generalize ks[0]=z at *
  clear hc
  have h1':(n:Int)=1:=by omega
  simp only [Mill.ndV]
  go_enter Tryz.func30,Tryz.ntmps30
  go_wp2_with (go_at_call 52;refine (l2E_any _ _).mono ?_;rintro e w' ⟨rfl,rfl⟩)
  go_ret
  exact ⟨Mill.ret_bool HF.out.symm,(Below.refl _ w).alloc (Nat.le_refl _) _⟩
 ·have HF:Hid (Mill.fits 17 o ks=false):=by
   have hlen:=HN.out
   match ks,hlen with
   | [],_=>rw [Hid];simp [Mill.fits,Mill.oneE]
   | [a],hlen=>simp at hlen;omega
   | a::b::r,_=>rw [Hid];simp [Mill.fits,Mill.oneE]
  clear hc
  have h1':((n:Int) == 1)=false:=by simpa using (by omega:¬ (n:Int)=1)
  simp only [Mill.ndV]
  go_enter Tryz.func30,Tryz.ntmps30
  go_wp2_with (go_at_call 52;refine (l2E_any _ _).mono ?_;rintro e w' ⟨rfl,rfl⟩)
  go_ret
  exact ⟨Mill.ret_bool HF.out.symm,(Below.refl _ w).alloc (Nat.le_refl _) _⟩
theorem l2Fits_19 (o t y:Int) (x:ByteArray) (k:Int) (ks:List Int) (v:Value) (B n:Nat) (HN:Hid (ks.length=n)) (w:World) (h:w.ownsRow B 3 1 v n (Mill.ints ks)) (_hl:n≤1000000) :
  Calls Tryz.prog 30 #[Mill.ndV ⟨19,o,t,y,x,k⟩,v] w fun e w'=>e = .returned (.bool (Mill.fits 19 o ks))∧Below w.heap.size w w':=by
 obtain ⟨a,cap,rfl,hc⟩:=Mill.ints_at h HN.out
 clear h
 by_cases h1:n=1
 ·obtain ⟨g,rfl,_,hg2,hcell⟩:=hc 0 (by omega)
  have h0:0 < ks.length:=by rw [HN.out];omega
  have HF:Hid (Mill.fits 19 o ks=Mill.isE ks[0]):=by
   have hlen:=HN.out
   match ks,h0,hlen with
   | [a],_,_=>rw [Hid];simp [Mill.fits,Mill.oneE]
   | a::b::r,_,hlen=>simp at hlen;omega
  generalize ks[0]=z at *
  clear hc
  have h1':(n:Int)=1:=by omega
  simp only [Mill.ndV]
  go_enter Tryz.func30,Tryz.ntmps30
  go_wp2_with (go_at_call 52;refine (l2E_any _ _).mono ?_;rintro e w' ⟨rfl,rfl⟩)
  go_ret
  exact ⟨Mill.ret_bool HF.out.symm,(Below.refl _ w).alloc (Nat.le_refl _) _⟩
 ·have HF:Hid (Mill.fits 19 o ks=false):=by
   have hlen:=HN.out
   match ks,hlen with
   | [],_=>rw [Hid];simp [Mill.fits,Mill.oneE]
   | [a],hlen=>simp at hlen;omega
   | a::b::r,_=>rw [Hid];simp [Mill.fits,Mill.oneE]
  clear hc
  have h1':((n:Int) == 1)=false:=by simpa using (by omega:¬ (n:Int)=1)
  simp only [Mill.ndV]
  go_enter Tryz.func30,Tryz.ntmps30
  go_wp2_with (go_at_call 52;refine (l2E_any _ _).mono ?_;rintro e w' ⟨rfl,rfl⟩)
  go_ret
  exact ⟨Mill.ret_bool HF.out.symm,(Below.refl _ w).alloc (Nat.le_refl _) _⟩
theorem l2Fits_6 (o t y:Int) (x:ByteArray) (k:Int) (ks:List Int) (v:Value) (B n:Nat) (HN:Hid (ks.length=n)) (w:World) (h:w.ownsRow B 3 1 v n (Mill.ints ks)) (hl:n≤1000000) :
  Calls Tryz.prog 30 #[Mill.ndV ⟨6,o,t,y,x,k⟩,v] w fun e w'=>e = .returned (.bool (Mill.fits 6 o ks))∧Below w.heap.size w w':=by
 obtain ⟨a,cap,rfl,_⟩:=Mill.ints_at h HN.out
 by_cases h1:n=2
 ·have HF:Hid (Mill.fits 6 o ks=ks.all Mill.isE):=by rw [Hid];have:=HN.out;simp [Mill.fits,this,h1]
  subst h1
  simp only [Mill.ndV]
  go_enter Tryz.func30,Tryz.ntmps30
  go_wp2_with (first | (go_at_call 53;refine (l2AllE_any ks _ B _ HN _ (h.alloc _) hl).mono ?_;rintro e w' ⟨rfl,rfl⟩))
  go_ret
  exact ⟨Mill.ret_bool HF.out.symm,(Below.refl _ w).alloc (Nat.le_refl _) _⟩
 ·have HF:Hid (Mill.fits 6 o ks=false):=by rw [Hid];have:=HN.out;simp [Mill.fits,this,h1]
  have h1':((n:Int) == 2)=false:=by simpa using (by omega:¬ (n:Int)=2)
  clear h1
  simp only [Mill.ndV]
  go_enter Tryz.func30,Tryz.ntmps30
  go_wp2_with (first | (go_at_call 53;refine (l2AllE_any ks _ B _ HN _ (h.alloc _) hl).mono ?_;rintro e w' ⟨rfl,rfl⟩))
  go_ret
  exact ⟨Mill.ret_bool HF.out.symm,(Below.refl _ w).alloc (Nat.le_refl _) _⟩
theorem l2Fits_18 (o t y:Int) (x:ByteArray) (k:Int) (ks:List Int) (v:Value) (B n:Nat) (HN:Hid (ks.length=n)) (w:World) (h:w.ownsRow B 3 1 v n (Mill.ints ks)) (hl:n≤1000000) :
  Calls Tryz.prog 30 #[Mill.ndV ⟨18,o,t,y,x,k⟩,v] w fun e w'=>e = .returned (.bool (Mill.fits 18 o ks))∧Below w.heap.size w w':=by
 obtain ⟨a,cap,rfl,_⟩:=Mill.ints_at h HN.out
 by_cases h1:n=2
 ·have HF:Hid (Mill.fits 18 o ks=ks.all Mill.isE):=by rw [Hid];have:=HN.out;simp [Mill.fits,this,h1]
  subst h1
  simp only [Mill.ndV]
  go_enter Tryz.func30,Tryz.ntmps30
  go_wp2_with (first | (go_at_call 53;refine (l2AllE_any ks _ B _ HN _ (h.alloc _) hl).mono ?_;rintro e w' ⟨rfl,rfl⟩))
  go_ret
  exact ⟨Mill.ret_bool HF.out.symm,(Below.refl _ w).alloc (Nat.le_refl _) _⟩
 ·have HF:Hid (Mill.fits 18 o ks=false):=by rw [Hid];have:=HN.out;simp [Mill.fits,this,h1]
  have h1':((n:Int) == 2)=false:=by simpa using (by omega:¬ (n:Int)=2)
  clear h1
  simp only [Mill.ndV]
  go_enter Tryz.func30,Tryz.ntmps30
  go_wp2_with (first | (go_at_call 53;refine (l2AllE_any ks _ B _ HN _ (h.alloc _) hl).mono ?_;rintro e w' ⟨rfl,rfl⟩))
  go_ret
  exact ⟨Mill.ret_bool HF.out.symm,(Below.refl _ w).alloc (Nat.le_refl _) _⟩
theorem l2Fits_7 (o t y:Int) (x:ByteArray) (k:Int) (ks:List Int) (v:Value) (B n:Nat) (HN:Hid (ks.length=n)) (w:World) (h:w.ownsRow B 3 1 v n (Mill.ints ks)) (hl:n≤1000000) :
  Calls Tryz.prog 30 #[Mill.ndV ⟨7,o,t,y,x,k⟩,v] w fun e w'=>e = .returned (.bool (Mill.fits 7 o ks))∧Below w.heap.size w w':=by
 obtain ⟨a,cap,rfl,_⟩:=Mill.ints_at h HN.out
 by_cases h1:n≤8
 ·have HF:Hid (Mill.fits 7 o ks=ks.all Mill.isE):=by rw [Hid];have:=HN.out;simp [Mill.fits,this,h1]
  have h1':(n:Int)≤8:=by omega
  simp only [Mill.ndV]
  go_enter Tryz.func30,Tryz.ntmps30
  go_wp2_with (first | (go_at_call 53;refine (l2AllE_any ks _ B _ HN _ (h.alloc _) hl).mono ?_;rintro e w' ⟨rfl,rfl⟩))
  go_ret
  exact ⟨Mill.ret_bool HF.out.symm,(Below.refl _ w).alloc (Nat.le_refl _) _⟩
 ·have HF:Hid (Mill.fits 7 o ks=false):=by rw [Hid];have:=HN.out;simp [Mill.fits,this,h1]
  have h1':¬ (n:Int)≤8:=by omega
  simp only [Mill.ndV]
  go_enter Tryz.func30,Tryz.ntmps30
  go_wp2_with (first | (go_at_call 53;refine (l2AllE_any ks _ B _ HN _ (h.alloc _) hl).mono ?_;rintro e w' ⟨rfl,rfl⟩))
  go_ret
  exact ⟨Mill.ret_bool HF.out.symm,(Below.refl _ w).alloc (Nat.le_refl _) _⟩
theorem l2Fits_16 (o t y:Int) (x:ByteArray) (k:Int) (ks:List Int) (v:Value) (B n:Nat) (HN:Hid (ks.length=n)) (w:World) (h:w.ownsRow B 3 1 v n (Mill.ints ks)) (hl:n≤1000000) :
  Calls Tryz.prog 30 #[Mill.ndV ⟨16,o,t,y,x,k⟩,v] w fun e w'=>e = .returned (.bool (Mill.fits 16 o ks))∧Below w.heap.size w w':=by
 obtain ⟨a,cap,rfl,_⟩:=Mill.ints_at h HN.out
 by_cases h1:n≤1
 ·have HF:Hid (Mill.fits 16 o ks=ks.all Mill.isE):=by rw [Hid];have:=HN.out;simp [Mill.fits,this,h1]
  have h1':(n:Int)≤1:=by omega
  simp only [Mill.ndV]
  go_enter Tryz.func30,Tryz.ntmps30
  go_wp2_with (first | (go_at_call 53;refine (l2AllE_any ks _ B _ HN _ (h.alloc _) hl).mono ?_;rintro e w' ⟨rfl,rfl⟩))
  go_ret
  exact ⟨Mill.ret_bool HF.out.symm,(Below.refl _ w).alloc (Nat.le_refl _) _⟩
 ·have HF:Hid (Mill.fits 16 o ks=false):=by rw [Hid];have:=HN.out;simp [Mill.fits,this,h1]
  have h1':¬ (n:Int)≤1:=by omega
  simp only [Mill.ndV]
  go_enter Tryz.func30,Tryz.ntmps30
  go_wp2_with (first | (go_at_call 53;refine (l2AllE_any ks _ B _ HN _ (h.alloc _) hl).mono ?_;rintro e w' ⟨rfl,rfl⟩))
  go_ret
  exact ⟨Mill.ret_bool HF.out.symm,(Below.refl _ w).alloc (Nat.le_refl _) _⟩
theorem l2Fits_8 (o t y:Int) (x:ByteArray) (k:Int) (ks:List Int) (v:Value) (B n:Nat) (HN:Hid (ks.length=n)) (w:World) (h:w.ownsRow B 3 1 v n (Mill.ints ks)) (hl:n≤1000000) :
  Calls Tryz.prog 30 #[Mill.ndV ⟨8,o,t,y,x,k⟩,v] w fun e w'=>e = .returned (.bool (Mill.fits 8 o ks))∧Below w.heap.size w w':=by
 obtain ⟨a,cap,rfl,_⟩:=Mill.ints_at h HN.out
 by_cases h1:(n:Int)=Mill.builtKids o
 ·have HF:Hid (Mill.fits 8 o ks=ks.all Mill.isE):=by rw [Hid];have:=HN.out;simp [Mill.fits,this,h1]
  have h1':((n:Int) == Mill.builtKids o)=true:=by simpa using h1
  simp only [Mill.ndV]
  go_enter Tryz.func30,Tryz.ntmps30
  go_wp2_with (first | (go_at_call 54;refine (l1BuiltWord_any _ _).mono ?_;rintro e w' ⟨rfl,rfl⟩) | (go_at_call 53;refine (l2AllE_any ks _ B _ HN _ (h.alloc _) hl).mono ?_;rintro e w' ⟨rfl,rfl⟩))
  go_ret
  exact ⟨Mill.ret_bool HF.out.symm,(Below.refl _ w).alloc (Nat.le_refl _) _⟩
 ·have HF:Hid (Mill.fits 8 o ks=false):=by rw [Hid];have:=HN.out;simp [Mill.fits,this,h1]
  have h1':((n:Int) == Mill.builtKids o)=false:=by simpa using h1
  simp only [Mill.ndV]
  go_enter Tryz.func30,Tryz.ntmps30
  go_wp2_with (first | (go_at_call 54;refine (l1BuiltWord_any _ _).mono ?_;rintro e w' ⟨rfl,rfl⟩) | (go_at_call 53;refine (l2AllE_any ks _ B _ HN _ (h.alloc _) hl).mono ?_;rintro e w' ⟨rfl,rfl⟩))
  go_ret
  exact ⟨Mill.ret_bool HF.out.symm,(Below.refl _ w).alloc (Nat.le_refl _) _⟩
theorem l2Fits_20 (o t y:Int) (x:ByteArray) (k:Int) (ks:List Int) (v:Value) (B n:Nat) (HN:Hid (ks.length=n)) (w:World) (h:w.ownsRow B 3 1 v n (Mill.ints ks)) (_hl:n≤1000000) :
  Calls Tryz.prog 30 #[Mill.ndV ⟨20,o,t,y,x,k⟩,v] w fun e w'=>e = .returned (.bool (Mill.fits 20 o ks))∧Below w.heap.size w w':=by
 obtain ⟨a,cap,rfl,hc⟩:=Mill.ints_at h HN.out
 clear h
 by_cases h1:n=1
 ·obtain ⟨g,rfl,_,hg2,hcell⟩:=hc 0 (by omega)
  have h0:0 < ks.length:=by rw [HN.out];omega
  have HF:Hid (Mill.fits 20 o ks=(ks[0] == 7)):=by
   have hlen:=HN.out
   match ks,h0,hlen with
   | [a],_,_=>rw [Hid];simp [Mill.fits,Mill.doK]
   | a::b::r,_,hlen=>simp at hlen;omega
  generalize ks[0]=z at *
  clear hc
  have h1':(n:Int)=1:=by omega
  simp only [Mill.ndV]
  go_enter Tryz.func30,Tryz.ntmps30
  go_wp2
  go_ret
  exact ⟨Mill.ret_bool HF.out.symm,(Below.refl _ w).alloc (Nat.le_refl _) _⟩
 ·have HF:Hid (Mill.fits 20 o ks=false):=by
   have hlen:=HN.out
   match ks,hlen with
   | [],_=>rw [Hid];simp [Mill.fits,Mill.doK]
   | [a],hlen=>simp at hlen;omega
   | a::b::r,_=>rw [Hid];simp [Mill.fits,Mill.doK]
  clear hc
  have h1':((n:Int) == 1)=false:=by simpa using (by omega:¬ (n:Int)=1)
  simp only [Mill.ndV]
  go_enter Tryz.func30,Tryz.ntmps30
  go_wp2
  go_ret
  exact ⟨Mill.ret_bool HF.out.symm,(Below.refl _ w).alloc (Nat.le_refl _) _⟩
theorem l2Fits_21 (o t y:Int) (x:ByteArray) (k:Int) (ks:List Int) (v:Value) (B n:Nat) (HN:Hid (ks.length=n)) (w:World) (h:w.ownsRow B 3 1 v n (Mill.ints ks)) (_hl:n≤1000000) :
  Calls Tryz.prog 30 #[Mill.ndV ⟨21,o,t,y,x,k⟩,v] w fun e w'=>e = .returned (.bool (Mill.fits 21 o ks))∧Below w.heap.size w w':=by
 obtain ⟨a,cap,rfl,hc⟩:=Mill.ints_at h HN.out
 clear h
 have HF:Hid (Mill.fits 21 o ks=ks.all Mill.isS):=by rw [Hid];simp [Mill.fits]
 simp only [Mill.ndV]
 go_enter Tryz.func30,Tryz.ntmps30
 go_wp2
 go_loop [8] (fun t => ∃ i:Nat,i≤n∧t = .int .i64 (i:Int)∧(ks.drop i).all Mill.isS=ks.all Mill.isS) (fun t=>n - (intOf t).toNat)
 case atStart=>exact ⟨0,by omega,rfl,rfl⟩
 case round =>
  obtain ⟨i,hi,rfl,hf⟩:=hrel
  by_cases hlt:i < n
  ·obtain ⟨g,rfl,_,hg2,hcell⟩:=hc i hlt
   have hil:i < ks.length:=by rw [HN.out];exact hlt
   rw [List.drop_eq_getElem_cons hil,List.all_cons] at hf
   clear hc
   cases hE:Mill.isS ks[i] with
   | true =>
    have HR:Hid ((ks.drop (i+1)).all Mill.isS=ks.all Mill.isS):=by rw [hE] at hf;exact hf
    clear hf
    generalize ks[i]=x at *
    go_wp2_with (go_at_call 55;refine (l2S_any _ _).mono ?_;rintro e w' ⟨rfl,rfl⟩;rw [hE])
    go_round
    case rel=>exact ⟨i+1,by omega,by go_num,HR.out⟩
    case measure=>simp [intOf];omega
   | false =>
    have HR:Hid (Mill.fits 21 o ks=false):=by rw [Hid,HF.out,← hf,hE];simp
    clear hf
    generalize ks[i]=x at *
    go_wp2_with (go_at_call 55;refine (l2S_any _ _).mono ?_;rintro e w' ⟨rfl,rfl⟩;rw [hE])
    go_ret
    exact ⟨Mill.ret_bool HR.out.symm,(Below.refl _ w).alloc (Nat.le_refl _) _⟩
  ·have HR:Hid (Mill.fits 21 o ks=true):=by
    rw [List.drop_of_length_le (by rw [HN.out];omega)] at hf;rw [Hid,HF.out,← hf];simp
   clear hf hc
   go_wp2
   go_ret
   exact ⟨Mill.ret_bool HR.out.symm,(Below.refl _ w).alloc (Nat.le_refl _) _⟩
theorem l2Fits_24 (o t y:Int) (x:ByteArray) (k:Int) (ks:List Int) (v:Value) (B n:Nat) (HN:Hid (ks.length=n)) (w:World) (h:w.ownsRow B 3 1 v n (Mill.ints ks)) (_hl:n≤1000000) :
  Calls Tryz.prog 30 #[Mill.ndV ⟨24,o,t,y,x,k⟩,v] w fun e w'=>e = .returned (.bool (Mill.fits 24 o ks))∧Below w.heap.size w w':=by
 obtain ⟨a,cap,rfl,hc⟩:=Mill.ints_at h HN.out
 clear h
 have HF:Hid (Mill.fits 24 o ks=(ks.all (fun k=>k == 23) && decide (1≤n) && decide (n≤60))):=by rw [Hid];have:=HN.out;simp [Mill.fits,this]
 simp only [Mill.ndV]
 go_enter Tryz.func30,Tryz.ntmps30
 go_wp2
 go_loop [10] (fun t => ∃ i:Nat,i≤n∧t = .int .i64 (i:Int)∧(ks.drop i).all (fun k=>k == 23)=ks.all (fun k=>k == 23)) (fun t=>n - (intOf t).toNat)
 case atStart=>exact ⟨0,by omega,rfl,rfl⟩
 case round =>
  obtain ⟨i,hi,rfl,hf⟩:=hrel
  by_cases hlt:i < n
  ·obtain ⟨g,rfl,_,hg2,hcell⟩:=hc i hlt
   have hil:i < ks.length:=by rw [HN.out];exact hlt
   rw [List.drop_eq_getElem_cons hil,List.all_cons] at hf
   clear hc
   cases hE:(ks[i] == 23) with
   | true =>
    have HR:Hid ((ks.drop (i+1)).all (fun k=>k == 23)=ks.all (fun k=>k == 23)):=by rw [hE] at hf;exact hf
    clear hf
    generalize ks[i]=x at *
    have hE':(x != 23)=false:=by simpa [bne] using hE
    go_wp2
    go_round
    case rel=>exact ⟨i+1,by omega,by go_num,HR.out⟩
    case measure=>simp [intOf];omega
   | false =>
    have HR:Hid (Mill.fits 24 o ks=false):=by rw [Hid,HF.out,← hf,hE];simp
    clear hf
    generalize ks[i]=x at *
    have hE':(x != 23)=true:=by simpa [bne] using hE
    go_wp2
    go_ret
    exact ⟨Mill.ret_bool HR.out.symm,(Below.refl _ w).alloc (Nat.le_refl _) _⟩
  ·have HR:Hid (Mill.fits 24 o ks=(decide (1≤n) && decide (n≤60))):=by
    rw [List.drop_of_length_le (by rw [HN.out];omega)] at hf;rw [Hid,HF.out,← hf];simp
   clear hf hc
   go_wp2
   all_goals go_ret
   all_goals exact ⟨Mill.ret_bool (by rw [HR.out];go_light;rw [Bool.eq_iff_iff];simp;omega),(Below.refl _ w).alloc (Nat.le_refl _) _⟩
end Go.Proofs.YtlcckaffhnjneaaGreatDoor
