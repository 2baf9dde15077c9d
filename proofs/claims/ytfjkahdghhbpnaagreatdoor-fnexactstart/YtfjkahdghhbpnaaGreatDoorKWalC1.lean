import Derived.Test.YtfjkahdghhbpnaaGreatDoorKTk
import Derived.Test.YtfjkahdghhbpnaaGreatDoorKValC
import Derived.Deep.RegionHeld3
set_option maxRecDepth 100000
set_option maxHeartbeats 1000000
namespace Go.Proofs.YtfjkahdghhbpnaaGreatDoor
open Go.RowKit
theorem Qs (n:Int) (x:ByteArray) (hn : -9223372036854775808<=n/\n<=9223372036854775807) (m:Int) (HM:Hid (Ay 3 (Cb n)=m)) (he:m=n) (w:World) :
  Calls Tryz.prog 118 #[.agg #[.int .i64 3,.int .i64 n,.string x]] w fun e w'=>e = .returned (.bool x.toList.isEmpty)/\Below w.heap.size w w':=by
 have a:Hid (Bf 3=true):=(by decide:Bf 3=true)
 have c:=Tryz.tk_uint8 (.agg #[])
 go_enter Tryz.func118,Tryz.ntmps118
 go_wp2_with (first|(go_at_call 142;refine(Bs _ _).mono ?_;rintro e w' ⟨rfl,rfl⟩;rw[a.out]))
 go_region_held3 (fun w'=>Below (w.heap.size+1) (w.alloc (.cells #[.int .i64 3,.int .i64 n,.string x] 99)) w'/\w'.cell? ⟨w.heap.size,0,none⟩=some (.int .i64 3)/\w'.cell? ⟨w.heap.size,1,none⟩=some (.int .i64 n)/\w'.cell? ⟨w.heap.size,2,none⟩=some (.string x)) (first|assumption|exact Dy (D6 _ _)|exact D8 (by assumption) (by assumption)) (first|(go_at_call 143;refine(Li _).mono ?_;rintro e w' ⟨rfl,rfl⟩)|(go_at_call 197;refine(Mh _ hn _).mono ?_;rintro e w' ⟨rfl,b⟩;rw[HM.out]))
 go_wp2
 go_ret
 exact⟨rfl,D7 (by assumption)⟩
theorem Sp (n:Int) (x:ByteArray) (hn : -9223372036854775808<=n/\n<=9223372036854775807) (m:Int) (HM:Hid (Ay 3 (Cb n)=m)) (he:¬ m=n) (w:World) :
  Calls Tryz.prog 118 #[.agg #[.int .i64 3,.int .i64 n,.string x]] w fun e w'=>e = .returned (.bool false)/\Below w.heap.size w w':=by
 have a:Hid (Bf 3=true):=(by decide:Bf 3=true)
 have d:=Tryz.tk_uint8 (.agg #[])
 have c:(m == n)=false:=by simp[he]
 go_enter Tryz.func118,Tryz.ntmps118
 go_wp2_with (first|(go_at_call 142;refine(Bs _ _).mono ?_;rintro e w' ⟨rfl,rfl⟩;rw[a.out]))
 refine wp_region_held_drew (S:=(fun w'=>Below (w.heap.size+1) (w.alloc (.cells #[.int .i64 3,.int .i64 n,.string x] 99)) w'/\w'.cell? ⟨w.heap.size,0,none⟩=some (.int .i64 3)/\w'.cell? ⟨w.heap.size,1,none⟩=some (.int .i64 n)/\w'.cell? ⟨w.heap.size,2,none⟩=some (.string x))) (by kernel_rfl) (Dy (D6 _ _)) (fun hHeld => ?_)
 refine Tk 0 (.pointer (some ⟨w.heap.size,0,none⟩)) rfl ?_
 try dsimp only[Act.put]
 refine Tk 1 (.int .i64 3) rfl ?_
 try dsimp only[Act.put]
 refine Tk 3 (.pointer (some ⟨w.heap.size,1,none⟩)) rfl ?_
 try dsimp only[Act.put]
 refine Tk 4 (.int .i64 n) rfl ?_
 try dsimp only[Act.put]
 refine Tk 6 (.pointer (some ⟨w.heap.size,1,none⟩)) rfl ?_
 try dsimp only[Act.put]
 refine Tk 7 (.int .i64 n) rfl ?_
 try dsimp only[Act.put]
 refine wpAnyH_ready (rs:=[2]) (by kernel_rfl) (by simp) ?_
 refine AllReadyH.cons rfl (fun K hK => ?_) AllReadyH.nil
 go_simp
 (go_at_call 143;refine(Li _).mono ?_;rintro e w' ⟨rfl,rfl⟩)
 go_wp2
 refine hK.out _ _ (by assumption) (fun hHeld => ?_)
 clear hK
 try dsimp only[Act.put]
 refine wpAnyH_ready (rs:=[5]) (by kernel_rfl) (by simp) ?_
 refine AllReadyH.cons rfl (fun K hK => ?_) AllReadyH.nil
 go_simp
 (go_at_call 197;refine(Mh _ hn _).mono ?_;rintro e w' ⟨rfl,b⟩;rw[HM.out])
 go_wp2
 refine hK.out _ _ (D8 (by assumption) b) (fun hHeld => ?_)
 clear hK
 try dsimp only[Act.put]
 refine Tk 8 (.bool false) rfl ?_
 try dsimp only[Act.put]
 refine Tk 9 (.bool false) rfl ?_
 try dsimp only[Act.put]
 refine wpAnyH_take (i:=10) (v:=undef) rfl (by kernel_rfl) (by kernel_rfl) (by kernel_rfl) (fun _ _ _ h=>h) (Or.inr ⟨by rfl,rfl⟩) (by assumption) ?_
 try dsimp only[Act.put]
 refine wpAnyH_take (i:=11) (v:=undef) rfl (by kernel_rfl) (by kernel_rfl) (by kernel_rfl) (fun _ _ _ h=>h) (Or.inr ⟨by rfl,rfl⟩) (by assumption) ?_
 try dsimp only[Act.put]
 refine wpAnyH_take (i:=12) (v:=undef) rfl (by kernel_rfl) (by kernel_rfl) (by kernel_rfl) (fun _ _ _ h=>h) (Or.inr ⟨by rfl,rfl⟩) (by assumption) ?_
 try dsimp only[Act.put]
 refine Tk 13 (.bool false) rfl ?_
 simp[Act.put]
 refine Tk 14 (.bool false) rfl ?_
 simp[Act.put]
 refine wpAnyH_done (by kernel_rfl) ?_ _
 go_wp2
 go_ret
 exact⟨rfl,D7 (by assumption)⟩
theorem Yn (n:Int) (x:ByteArray) (hn : -9223372036854775808<=n/\n<=9223372036854775807) (w:World) :
  Calls Tryz.prog 118 #[.agg #[.int .i64 3,.int .i64 n,.string x]] w fun e w'=>e = .returned (.bool (x.toList.isEmpty && decide (n=Ay 3 (Cb n))))/\Below w.heap.size w w':=by
 by_cases he:Ay 3 (Cb n)=n
 ·have:=Qs n x hn _ rfl he w
  rw[he];simpa using this
 ·have a:¬ n=Ay 3 (Cb n):=fun h=>he h.symm
  have:=Sp n x hn _ rfl he w
  simpa[a]using this
theorem Pv (n:Int) (x:ByteArray) (hn : -9223372036854775808<=n/\n<=9223372036854775807) (m:Int) (HM:Hid (Ay 4 (Cb n)=m)) (he:m=n) (w:World) :
  Calls Tryz.prog 118 #[.agg #[.int .i64 4,.int .i64 n,.string x]] w fun e w'=>e = .returned (.bool x.toList.isEmpty)/\Below w.heap.size w w':=by
 have a:Hid (Bf 4=true):=(by decide:Bf 4=true)
 have c:=Tryz.tk_uint16 (.agg #[])
 go_enter Tryz.func118,Tryz.ntmps118
 go_wp2_with (first|(go_at_call 142;refine(Bs _ _).mono ?_;rintro e w' ⟨rfl,rfl⟩;rw[a.out]))
 go_region_held3 (fun w'=>Below (w.heap.size+1) (w.alloc (.cells #[.int .i64 4,.int .i64 n,.string x] 99)) w'/\w'.cell? ⟨w.heap.size,0,none⟩=some (.int .i64 4)/\w'.cell? ⟨w.heap.size,1,none⟩=some (.int .i64 n)/\w'.cell? ⟨w.heap.size,2,none⟩=some (.string x)) (first|assumption|exact Dy (D6 _ _)|exact D8 (by assumption) (by assumption)) (first|(go_at_call 143;refine(Kn _).mono ?_;rintro e w' ⟨rfl,rfl⟩)|(go_at_call 201;refine(Lk _ hn _).mono ?_;rintro e w' ⟨rfl,b⟩;rw[HM.out]))
 go_wp2
 go_ret
 exact⟨rfl,D7 (by assumption)⟩
theorem Qm (n:Int) (x:ByteArray) (hn : -9223372036854775808<=n/\n<=9223372036854775807) (m:Int) (HM:Hid (Ay 4 (Cb n)=m)) (he:¬ m=n) (w:World) :
  Calls Tryz.prog 118 #[.agg #[.int .i64 4,.int .i64 n,.string x]] w fun e w'=>e = .returned (.bool false)/\Below w.heap.size w w':=by
 have a:Hid (Bf 4=true):=(by decide:Bf 4=true)
 have d:=Tryz.tk_uint16 (.agg #[])
 have c:(m == n)=false:=by simp[he]
 go_enter Tryz.func118,Tryz.ntmps118
 go_wp2_with (first|(go_at_call 142;refine(Bs _ _).mono ?_;rintro e w' ⟨rfl,rfl⟩;rw[a.out]))
 refine wp_region_held_drew (S:=(fun w'=>Below (w.heap.size+1) (w.alloc (.cells #[.int .i64 4,.int .i64 n,.string x] 99)) w'/\w'.cell? ⟨w.heap.size,0,none⟩=some (.int .i64 4)/\w'.cell? ⟨w.heap.size,1,none⟩=some (.int .i64 n)/\w'.cell? ⟨w.heap.size,2,none⟩=some (.string x))) (by kernel_rfl) (Dy (D6 _ _)) (fun hHeld => ?_)
 refine Tk 0 (.pointer (some ⟨w.heap.size,0,none⟩)) rfl ?_
 try dsimp only[Act.put]
 refine Tk 1 (.int .i64 4) rfl ?_
 try dsimp only[Act.put]
 refine Tk 3 (.pointer (some ⟨w.heap.size,1,none⟩)) rfl ?_
 try dsimp only[Act.put]
 refine Tk 4 (.int .i64 n) rfl ?_
 try dsimp only[Act.put]
 refine Tk 6 (.pointer (some ⟨w.heap.size,1,none⟩)) rfl ?_
 try dsimp only[Act.put]
 refine Tk 7 (.int .i64 n) rfl ?_
 try dsimp only[Act.put]
 refine wpAnyH_ready (rs:=[2]) (by kernel_rfl) (by simp) ?_
 refine AllReadyH.cons rfl (fun K hK => ?_) AllReadyH.nil
 go_simp
 (go_at_call 143;refine(Kn _).mono ?_;rintro e w' ⟨rfl,rfl⟩)
 go_wp2
 refine hK.out _ _ (by assumption) (fun hHeld => ?_)
 clear hK
 try dsimp only[Act.put]
 refine wpAnyH_ready (rs:=[5]) (by kernel_rfl) (by simp) ?_
 refine AllReadyH.cons rfl (fun K hK => ?_) AllReadyH.nil
 go_simp
 (go_at_call 201;refine(Lk _ hn _).mono ?_;rintro e w' ⟨rfl,b⟩;rw[HM.out])
 go_wp2
 refine hK.out _ _ (D8 (by assumption) b) (fun hHeld => ?_)
 clear hK
 try dsimp only[Act.put]
 refine Tk 8 (.bool false) rfl ?_
 try dsimp only[Act.put]
 refine Tk 9 (.bool false) rfl ?_
 try dsimp only[Act.put]
 refine wpAnyH_take (i:=10) (v:=undef) rfl (by kernel_rfl) (by kernel_rfl) (by kernel_rfl) (fun _ _ _ h=>h) (Or.inr ⟨by rfl,rfl⟩) (by assumption) ?_
 try dsimp only[Act.put]
 refine wpAnyH_take (i:=11) (v:=undef) rfl (by kernel_rfl) (by kernel_rfl) (by kernel_rfl) (fun _ _ _ h=>h) (Or.inr ⟨by rfl,rfl⟩) (by assumption) ?_
 try dsimp only[Act.put]
 refine wpAnyH_take (i:=12) (v:=undef) rfl (by kernel_rfl) (by kernel_rfl) (by kernel_rfl) (fun _ _ _ h=>h) (Or.inr ⟨by rfl,rfl⟩) (by assumption) ?_
 try dsimp only[Act.put]
 refine Tk 13 (.bool false) rfl ?_
 simp[Act.put]
 refine Tk 14 (.bool false) rfl ?_
 simp[Act.put]
 refine wpAnyH_done (by kernel_rfl) ?_ _
 go_wp2
 go_ret
 exact⟨rfl,D7 (by assumption)⟩
theorem Vz (n:Int) (x:ByteArray) (hn : -9223372036854775808<=n/\n<=9223372036854775807) (w:World) :
  Calls Tryz.prog 118 #[.agg #[.int .i64 4,.int .i64 n,.string x]] w fun e w'=>e = .returned (.bool (x.toList.isEmpty && decide (n=Ay 4 (Cb n))))/\Below w.heap.size w w':=by
 by_cases he:Ay 4 (Cb n)=n
 ·have:=Pv n x hn _ rfl he w
  rw[he];simpa using this
 ·have a:¬ n=Ay 4 (Cb n):=fun h=>he h.symm
  have:=Qm n x hn _ rfl he w
  simpa[a]using this
theorem Pw (n:Int) (x:ByteArray) (hn : -9223372036854775808<=n/\n<=9223372036854775807) (m:Int) (HM:Hid (Ay 5 (Cb n)=m)) (he:m=n) (w:World) :
  Calls Tryz.prog 118 #[.agg #[.int .i64 5,.int .i64 n,.string x]] w fun e w'=>e = .returned (.bool x.toList.isEmpty)/\Below w.heap.size w w':=by
 have a:Hid (Bf 5=true):=(by decide:Bf 5=true)
 have c:=Tryz.tk_uint32 (.agg #[])
 go_enter Tryz.func118,Tryz.ntmps118
 go_wp2_with (first|(go_at_call 142;refine(Bs _ _).mono ?_;rintro e w' ⟨rfl,rfl⟩;rw[a.out]))
 go_region_held3 (fun w'=>Below (w.heap.size+1) (w.alloc (.cells #[.int .i64 5,.int .i64 n,.string x] 99)) w'/\w'.cell? ⟨w.heap.size,0,none⟩=some (.int .i64 5)/\w'.cell? ⟨w.heap.size,1,none⟩=some (.int .i64 n)/\w'.cell? ⟨w.heap.size,2,none⟩=some (.string x)) (first|assumption|exact Dy (D6 _ _)|exact D8 (by assumption) (by assumption)) (first|(go_at_call 143;refine(Ko _).mono ?_;rintro e w' ⟨rfl,rfl⟩)|(go_at_call 205;refine(Ll _ hn _).mono ?_;rintro e w' ⟨rfl,b⟩;rw[HM.out]))
 go_wp2
 go_ret
 exact⟨rfl,D7 (by assumption)⟩
theorem Qn (n:Int) (x:ByteArray) (hn : -9223372036854775808<=n/\n<=9223372036854775807) (m:Int) (HM:Hid (Ay 5 (Cb n)=m)) (he:¬ m=n) (w:World) :
  Calls Tryz.prog 118 #[.agg #[.int .i64 5,.int .i64 n,.string x]] w fun e w'=>e = .returned (.bool false)/\Below w.heap.size w w':=by
 have a:Hid (Bf 5=true):=(by decide:Bf 5=true)
 have d:=Tryz.tk_uint32 (.agg #[])
 have c:(m == n)=false:=by simp[he]
 go_enter Tryz.func118,Tryz.ntmps118
 go_wp2_with (first|(go_at_call 142;refine(Bs _ _).mono ?_;rintro e w' ⟨rfl,rfl⟩;rw[a.out]))
 refine wp_region_held_drew (S:=(fun w'=>Below (w.heap.size+1) (w.alloc (.cells #[.int .i64 5,.int .i64 n,.string x] 99)) w'/\w'.cell? ⟨w.heap.size,0,none⟩=some (.int .i64 5)/\w'.cell? ⟨w.heap.size,1,none⟩=some (.int .i64 n)/\w'.cell? ⟨w.heap.size,2,none⟩=some (.string x))) (by kernel_rfl) (Dy (D6 _ _)) (fun hHeld => ?_)
 refine Tk 0 (.pointer (some ⟨w.heap.size,0,none⟩)) rfl ?_
 try dsimp only[Act.put]
 refine Tk 1 (.int .i64 5) rfl ?_
 try dsimp only[Act.put]
 refine Tk 3 (.pointer (some ⟨w.heap.size,1,none⟩)) rfl ?_
 try dsimp only[Act.put]
 refine Tk 4 (.int .i64 n) rfl ?_
 try dsimp only[Act.put]
 refine Tk 6 (.pointer (some ⟨w.heap.size,1,none⟩)) rfl ?_
 try dsimp only[Act.put]
 refine Tk 7 (.int .i64 n) rfl ?_
 try dsimp only[Act.put]
 refine wpAnyH_ready (rs:=[2]) (by kernel_rfl) (by simp) ?_
 refine AllReadyH.cons rfl (fun K hK => ?_) AllReadyH.nil
 go_simp
 (go_at_call 143;refine(Ko _).mono ?_;rintro e w' ⟨rfl,rfl⟩)
 go_wp2
 refine hK.out _ _ (by assumption) (fun hHeld => ?_)
 clear hK
 try dsimp only[Act.put]
 refine wpAnyH_ready (rs:=[5]) (by kernel_rfl) (by simp) ?_
 refine AllReadyH.cons rfl (fun K hK => ?_) AllReadyH.nil
 go_simp
 (go_at_call 205;refine(Ll _ hn _).mono ?_;rintro e w' ⟨rfl,b⟩;rw[HM.out])
 go_wp2
 refine hK.out _ _ (D8 (by assumption) b) (fun hHeld => ?_)
 clear hK
 try dsimp only[Act.put]
 refine Tk 8 (.bool false) rfl ?_
 try dsimp only[Act.put]
 refine Tk 9 (.bool false) rfl ?_
 try dsimp only[Act.put]
 refine wpAnyH_take (i:=10) (v:=undef) rfl (by kernel_rfl) (by kernel_rfl) (by kernel_rfl) (fun _ _ _ h=>h) (Or.inr ⟨by rfl,rfl⟩) (by assumption) ?_
 try dsimp only[Act.put]
 refine wpAnyH_take (i:=11) (v:=undef) rfl (by kernel_rfl) (by kernel_rfl) (by kernel_rfl) (fun _ _ _ h=>h) (Or.inr ⟨by rfl,rfl⟩) (by assumption) ?_
 try dsimp only[Act.put]
 refine wpAnyH_take (i:=12) (v:=undef) rfl (by kernel_rfl) (by kernel_rfl) (by kernel_rfl) (fun _ _ _ h=>h) (Or.inr ⟨by rfl,rfl⟩) (by assumption) ?_
 try dsimp only[Act.put]
 refine Tk 13 (.bool false) rfl ?_
 simp[Act.put]
 refine Tk 14 (.bool false) rfl ?_
 simp[Act.put]
 refine wpAnyH_done (by kernel_rfl) ?_ _
 go_wp2
 go_ret
 exact⟨rfl,D7 (by assumption)⟩
theorem V4 (n:Int) (x:ByteArray) (hn : -9223372036854775808<=n/\n<=9223372036854775807) (w:World) :
  Calls Tryz.prog 118 #[.agg #[.int .i64 5,.int .i64 n,.string x]] w fun e w'=>e = .returned (.bool (x.toList.isEmpty && decide (n=Ay 5 (Cb n))))/\Below w.heap.size w w':=by
 by_cases he:Ay 5 (Cb n)=n
 ·have:=Pw n x hn _ rfl he w
  rw[he];simpa using this
 ·have a:¬ n=Ay 5 (Cb n):=fun h=>he h.symm
  have:=Qn n x hn _ rfl he w
  simpa[a]using this
theorem Px (n:Int) (x:ByteArray) (hn : -9223372036854775808<=n/\n<=9223372036854775807) (m:Int) (HM:Hid (Ay 6 (Cb n)=m)) (he:m=n) (w:World) :
  Calls Tryz.prog 118 #[.agg #[.int .i64 6,.int .i64 n,.string x]] w fun e w'=>e = .returned (.bool x.toList.isEmpty)/\Below w.heap.size w w':=by
 have a:Hid (Bf 6=true):=(by decide:Bf 6=true)
 have c:=Tryz.tk_uint64 (.agg #[])
 go_enter Tryz.func118,Tryz.ntmps118
 go_wp2_with (first|(go_at_call 142;refine(Bs _ _).mono ?_;rintro e w' ⟨rfl,rfl⟩;rw[a.out]))
 go_region_held3 (fun w'=>Below (w.heap.size+1) (w.alloc (.cells #[.int .i64 6,.int .i64 n,.string x] 99)) w'/\w'.cell? ⟨w.heap.size,0,none⟩=some (.int .i64 6)/\w'.cell? ⟨w.heap.size,1,none⟩=some (.int .i64 n)/\w'.cell? ⟨w.heap.size,2,none⟩=some (.string x)) (first|assumption|exact Dy (D6 _ _)|exact D8 (by assumption) (by assumption)) (first|(go_at_call 143;refine(Kp _).mono ?_;rintro e w' ⟨rfl,rfl⟩)|(go_at_call 209;refine(Lm _ hn _).mono ?_;rintro e w' ⟨rfl,b⟩;rw[HM.out]))
 go_wp2
 go_ret
 exact⟨rfl,D7 (by assumption)⟩
theorem Qo (n:Int) (x:ByteArray) (hn : -9223372036854775808<=n/\n<=9223372036854775807) (m:Int) (HM:Hid (Ay 6 (Cb n)=m)) (he:¬ m=n) (w:World) :
  Calls Tryz.prog 118 #[.agg #[.int .i64 6,.int .i64 n,.string x]] w fun e w'=>e = .returned (.bool false)/\Below w.heap.size w w':=by
 have a:Hid (Bf 6=true):=(by decide:Bf 6=true)
 have d:=Tryz.tk_uint64 (.agg #[])
 have c:(m == n)=false:=by simp[he]
 go_enter Tryz.func118,Tryz.ntmps118
 go_wp2_with (first|(go_at_call 142;refine(Bs _ _).mono ?_;rintro e w' ⟨rfl,rfl⟩;rw[a.out]))
 refine wp_region_held_drew (S:=(fun w'=>Below (w.heap.size+1) (w.alloc (.cells #[.int .i64 6,.int .i64 n,.string x] 99)) w'/\w'.cell? ⟨w.heap.size,0,none⟩=some (.int .i64 6)/\w'.cell? ⟨w.heap.size,1,none⟩=some (.int .i64 n)/\w'.cell? ⟨w.heap.size,2,none⟩=some (.string x))) (by kernel_rfl) (Dy (D6 _ _)) (fun hHeld => ?_)
 refine Tk 0 (.pointer (some ⟨w.heap.size,0,none⟩)) rfl ?_
 try dsimp only[Act.put]
 refine Tk 1 (.int .i64 6) rfl ?_
 try dsimp only[Act.put]
 refine Tk 3 (.pointer (some ⟨w.heap.size,1,none⟩)) rfl ?_
 try dsimp only[Act.put]
 refine Tk 4 (.int .i64 n) rfl ?_
 try dsimp only[Act.put]
 refine Tk 6 (.pointer (some ⟨w.heap.size,1,none⟩)) rfl ?_
 try dsimp only[Act.put]
 refine Tk 7 (.int .i64 n) rfl ?_
 try dsimp only[Act.put]
 refine wpAnyH_ready (rs:=[2]) (by kernel_rfl) (by simp) ?_
 refine AllReadyH.cons rfl (fun K hK => ?_) AllReadyH.nil
 go_simp
 (go_at_call 143;refine(Kp _).mono ?_;rintro e w' ⟨rfl,rfl⟩)
 go_wp2
 refine hK.out _ _ (by assumption) (fun hHeld => ?_)
 clear hK
 try dsimp only[Act.put]
 refine wpAnyH_ready (rs:=[5]) (by kernel_rfl) (by simp) ?_
 refine AllReadyH.cons rfl (fun K hK => ?_) AllReadyH.nil
 go_simp
 (go_at_call 209;refine(Lm _ hn _).mono ?_;rintro e w' ⟨rfl,b⟩;rw[HM.out])
 go_wp2
 refine hK.out _ _ (D8 (by assumption) b) (fun hHeld => ?_)
 clear hK
 try dsimp only[Act.put]
 refine Tk 8 (.bool false) rfl ?_
 try dsimp only[Act.put]
 refine Tk 9 (.bool false) rfl ?_
 try dsimp only[Act.put]
 refine wpAnyH_take (i:=10) (v:=undef) rfl (by kernel_rfl) (by kernel_rfl) (by kernel_rfl) (fun _ _ _ h=>h) (Or.inr ⟨by rfl,rfl⟩) (by assumption) ?_
 try dsimp only[Act.put]
 refine wpAnyH_take (i:=11) (v:=undef) rfl (by kernel_rfl) (by kernel_rfl) (by kernel_rfl) (fun _ _ _ h=>h) (Or.inr ⟨by rfl,rfl⟩) (by assumption) ?_
 try dsimp only[Act.put]
 refine wpAnyH_take (i:=12) (v:=undef) rfl (by kernel_rfl) (by kernel_rfl) (by kernel_rfl) (fun _ _ _ h=>h) (Or.inr ⟨by rfl,rfl⟩) (by assumption) ?_
 try dsimp only[Act.put]
 refine Tk 13 (.bool false) rfl ?_
 simp[Act.put]
 refine Tk 14 (.bool false) rfl ?_
 simp[Act.put]
 refine wpAnyH_done (by kernel_rfl) ?_ _
 go_wp2
 go_ret
 exact⟨rfl,D7 (by assumption)⟩
theorem V5 (n:Int) (x:ByteArray) (hn : -9223372036854775808<=n/\n<=9223372036854775807) (w:World) :
  Calls Tryz.prog 118 #[.agg #[.int .i64 6,.int .i64 n,.string x]] w fun e w'=>e = .returned (.bool (x.toList.isEmpty && decide (n=Ay 6 (Cb n))))/\Below w.heap.size w w':=by
 by_cases he:Ay 6 (Cb n)=n
 ·have:=Px n x hn _ rfl he w
  rw[he];simpa using this
 ·have a:¬ n=Ay 6 (Cb n):=fun h=>he h.symm
  have:=Qo n x hn _ rfl he w
  simpa[a]using this
end Go.Proofs.YtfjkahdghhbpnaaGreatDoor
