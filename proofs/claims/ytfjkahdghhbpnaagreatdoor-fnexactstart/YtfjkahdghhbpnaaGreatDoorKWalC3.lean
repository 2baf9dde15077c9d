import Derived.Test.YtfjkahdghhbpnaaGreatDoorKTk
import Derived.Test.YtfjkahdghhbpnaaGreatDoorKValC
import Derived.Deep.RegionHeld3
set_option maxRecDepth 100000
set_option maxHeartbeats 1000000
namespace Go.Proofs.YtfjkahdghhbpnaaGreatDoor
open Go.RowKit
theorem Sq (n:Int) (x:ByteArray) (hn : -9223372036854775808<=n/\n<=9223372036854775807) (m:Int) (HM:Hid (Ay 7 (Cb n)=m)) (he:m=n) (w:World) :
  Calls Tryz.prog 118 #[.agg #[.int .i64 7,.int .i64 n,.string x]] w fun e w'=>e = .returned (.bool x.toList.isEmpty)/\Below w.heap.size w w':=by
 have a:Hid (Bf 7=true):=(by decide:Bf 7=true)
 have c:=Tryz.tk_int8 (.agg #[])
 go_enter Tryz.func118,Tryz.ntmps118
 go_wp2_with (first|(go_at_call 142;refine(Bs _ _).mono ?_;rintro e w' ⟨rfl,rfl⟩;rw[a.out]))
 go_region_held3 (fun w'=>Below (w.heap.size+1) (w.alloc (.cells #[.int .i64 7,.int .i64 n,.string x] 99)) w'/\w'.cell? ⟨w.heap.size,0,none⟩=some (.int .i64 7)/\w'.cell? ⟨w.heap.size,1,none⟩=some (.int .i64 n)/\w'.cell? ⟨w.heap.size,2,none⟩=some (.string x)) (first|assumption|exact Dy (D6 _ _)|exact D8 (by assumption) (by assumption)) (first|(go_at_call 143;refine(Md _).mono ?_;rintro e w' ⟨rfl,rfl⟩)|(go_at_call 213;refine(Nf _ hn _).mono ?_;rintro e w' ⟨rfl,b⟩;rw[HM.out]))
 go_wp2
 go_ret
 exact⟨rfl,D7 (by assumption)⟩
theorem Ug (n:Int) (x:ByteArray) (hn : -9223372036854775808<=n/\n<=9223372036854775807) (m:Int) (HM:Hid (Ay 7 (Cb n)=m)) (he:¬ m=n) (w:World) :
  Calls Tryz.prog 118 #[.agg #[.int .i64 7,.int .i64 n,.string x]] w fun e w'=>e = .returned (.bool false)/\Below w.heap.size w w':=by
 have a:Hid (Bf 7=true):=(by decide:Bf 7=true)
 have d:=Tryz.tk_int8 (.agg #[])
 have c:(m == n)=false:=by simp[he]
 go_enter Tryz.func118,Tryz.ntmps118
 go_wp2_with (first|(go_at_call 142;refine(Bs _ _).mono ?_;rintro e w' ⟨rfl,rfl⟩;rw[a.out]))
 refine wp_region_held_drew (S:=(fun w'=>Below (w.heap.size+1) (w.alloc (.cells #[.int .i64 7,.int .i64 n,.string x] 99)) w'/\w'.cell? ⟨w.heap.size,0,none⟩=some (.int .i64 7)/\w'.cell? ⟨w.heap.size,1,none⟩=some (.int .i64 n)/\w'.cell? ⟨w.heap.size,2,none⟩=some (.string x))) (by kernel_rfl) (Dy (D6 _ _)) (fun hHeld => ?_)
 refine Tk 0 (.pointer (some ⟨w.heap.size,0,none⟩)) rfl ?_
 try dsimp only[Act.put]
 refine Tk 1 (.int .i64 7) rfl ?_
 try dsimp only[Act.put]
 refine Tk 3 (.pointer (some ⟨w.heap.size,1,none⟩)) rfl ?_
 try dsimp only[Act.put]
 refine Tk 4 (.int .i64 n) rfl ?_
 try dsimp only[Act.put]
 refine Tk 6 (.pointer (some ⟨w.heap.size,1,none⟩)) rfl ?_
 try dsimp only[Act.put]
 refine Tk 7 (.int .i64 n) rfl ?_
 try dsimp only[Act.put]
 refine wpAnyH_ready (rs:=[2]) (by kernel_rfl) (by simp) ?_
 refine AllReadyH.cons rfl (fun K hK => ?_) AllReadyH.nil
 go_simp
 (go_at_call 143;refine(Md _).mono ?_;rintro e w' ⟨rfl,rfl⟩)
 go_wp2
 refine hK.out _ _ (by assumption) (fun hHeld => ?_)
 clear hK
 try dsimp only[Act.put]
 refine wpAnyH_ready (rs:=[5]) (by kernel_rfl) (by simp) ?_
 refine AllReadyH.cons rfl (fun K hK => ?_) AllReadyH.nil
 go_simp
 (go_at_call 213;refine(Nf _ hn _).mono ?_;rintro e w' ⟨rfl,b⟩;rw[HM.out])
 go_wp2
 refine hK.out _ _ (D8 (by assumption) b) (fun hHeld => ?_)
 clear hK
 try dsimp only[Act.put]
 refine Tk 8 (.bool false) rfl ?_
 try dsimp only[Act.put]
 refine Tk 9 (.bool false) rfl ?_
 try dsimp only[Act.put]
 refine wpAnyH_take (i:=10) (v:=undef) rfl (by kernel_rfl) (by kernel_rfl) (by kernel_rfl) (fun _ _ _ h=>h) (Or.inr ⟨by rfl,rfl⟩) (by assumption) ?_
 try dsimp only[Act.put]
 refine wpAnyH_take (i:=11) (v:=undef) rfl (by kernel_rfl) (by kernel_rfl) (by kernel_rfl) (fun _ _ _ h=>h) (Or.inr ⟨by rfl,rfl⟩) (by assumption) ?_
 try dsimp only[Act.put]
 refine wpAnyH_take (i:=12) (v:=undef) rfl (by kernel_rfl) (by kernel_rfl) (by kernel_rfl) (fun _ _ _ h=>h) (Or.inr ⟨by rfl,rfl⟩) (by assumption) ?_
 try dsimp only[Act.put]
 refine Tk 13 (.bool false) rfl ?_
 simp[Act.put]
 refine Tk 14 (.bool false) rfl ?_
 simp[Act.put]
 refine wpAnyH_done (by kernel_rfl) ?_ _
 go_wp2
 go_ret
 exact⟨rfl,D7 (by assumption)⟩
theorem Qa1 (n:Int) (x:ByteArray) (hn : -9223372036854775808<=n/\n<=9223372036854775807) (w:World) :
  Calls Tryz.prog 118 #[.agg #[.int .i64 7,.int .i64 n,.string x]] w fun e w'=>e = .returned (.bool (x.toList.isEmpty && decide (n=Ay 7 (Cb n))))/\Below w.heap.size w w':=by
 by_cases he:Ay 7 (Cb n)=n
 ·have:=Sq n x hn _ rfl he w
  rw[he];simpa using this
 ·have a:¬ n=Ay 7 (Cb n):=fun h=>he h.symm
  have:=Ug n x hn _ rfl he w
  simpa[a]using this
theorem Qp (n:Int) (x:ByteArray) (hn : -9223372036854775808<=n/\n<=9223372036854775807) (m:Int) (HM:Hid (Ay 8 (Cb n)=m)) (he:m=n) (w:World) :
  Calls Tryz.prog 118 #[.agg #[.int .i64 8,.int .i64 n,.string x]] w fun e w'=>e = .returned (.bool x.toList.isEmpty)/\Below w.heap.size w w':=by
 have a:Hid (Bf 8=true):=(by decide:Bf 8=true)
 have c:=Tryz.tk_int16 (.agg #[])
 go_enter Tryz.func118,Tryz.ntmps118
 go_wp2_with (first|(go_at_call 142;refine(Bs _ _).mono ?_;rintro e w' ⟨rfl,rfl⟩;rw[a.out]))
 go_region_held3 (fun w'=>Below (w.heap.size+1) (w.alloc (.cells #[.int .i64 8,.int .i64 n,.string x] 99)) w'/\w'.cell? ⟨w.heap.size,0,none⟩=some (.int .i64 8)/\w'.cell? ⟨w.heap.size,1,none⟩=some (.int .i64 n)/\w'.cell? ⟨w.heap.size,2,none⟩=some (.string x)) (first|assumption|exact Dy (D6 _ _)|exact D8 (by assumption) (by assumption)) (first|(go_at_call 143;refine(Lf _).mono ?_;rintro e w' ⟨rfl,rfl⟩)|(go_at_call 217;refine(Me _ hn _).mono ?_;rintro e w' ⟨rfl,b⟩;rw[HM.out]))
 go_wp2
 go_ret
 exact⟨rfl,D7 (by assumption)⟩
theorem Sm (n:Int) (x:ByteArray) (hn : -9223372036854775808<=n/\n<=9223372036854775807) (m:Int) (HM:Hid (Ay 8 (Cb n)=m)) (he:¬ m=n) (w:World) :
  Calls Tryz.prog 118 #[.agg #[.int .i64 8,.int .i64 n,.string x]] w fun e w'=>e = .returned (.bool false)/\Below w.heap.size w w':=by
 have a:Hid (Bf 8=true):=(by decide:Bf 8=true)
 have d:=Tryz.tk_int16 (.agg #[])
 have c:(m == n)=false:=by simp[he]
 go_enter Tryz.func118,Tryz.ntmps118
 go_wp2_with (first|(go_at_call 142;refine(Bs _ _).mono ?_;rintro e w' ⟨rfl,rfl⟩;rw[a.out]))
 refine wp_region_held_drew (S:=(fun w'=>Below (w.heap.size+1) (w.alloc (.cells #[.int .i64 8,.int .i64 n,.string x] 99)) w'/\w'.cell? ⟨w.heap.size,0,none⟩=some (.int .i64 8)/\w'.cell? ⟨w.heap.size,1,none⟩=some (.int .i64 n)/\w'.cell? ⟨w.heap.size,2,none⟩=some (.string x))) (by kernel_rfl) (Dy (D6 _ _)) (fun hHeld => ?_)
 refine Tk 0 (.pointer (some ⟨w.heap.size,0,none⟩)) rfl ?_
 try dsimp only[Act.put]
 refine Tk 1 (.int .i64 8) rfl ?_
 try dsimp only[Act.put]
 refine Tk 3 (.pointer (some ⟨w.heap.size,1,none⟩)) rfl ?_
 try dsimp only[Act.put]
 refine Tk 4 (.int .i64 n) rfl ?_
 try dsimp only[Act.put]
 refine Tk 6 (.pointer (some ⟨w.heap.size,1,none⟩)) rfl ?_
 try dsimp only[Act.put]
 refine Tk 7 (.int .i64 n) rfl ?_
 try dsimp only[Act.put]
 refine wpAnyH_ready (rs:=[2]) (by kernel_rfl) (by simp) ?_
 refine AllReadyH.cons rfl (fun K hK => ?_) AllReadyH.nil
 go_simp
 (go_at_call 143;refine(Lf _).mono ?_;rintro e w' ⟨rfl,rfl⟩)
 go_wp2
 refine hK.out _ _ (by assumption) (fun hHeld => ?_)
 clear hK
 try dsimp only[Act.put]
 refine wpAnyH_ready (rs:=[5]) (by kernel_rfl) (by simp) ?_
 refine AllReadyH.cons rfl (fun K hK => ?_) AllReadyH.nil
 go_simp
 (go_at_call 217;refine(Me _ hn _).mono ?_;rintro e w' ⟨rfl,b⟩;rw[HM.out])
 go_wp2
 refine hK.out _ _ (D8 (by assumption) b) (fun hHeld => ?_)
 clear hK
 try dsimp only[Act.put]
 refine Tk 8 (.bool false) rfl ?_
 try dsimp only[Act.put]
 refine Tk 9 (.bool false) rfl ?_
 try dsimp only[Act.put]
 refine wpAnyH_take (i:=10) (v:=undef) rfl (by kernel_rfl) (by kernel_rfl) (by kernel_rfl) (fun _ _ _ h=>h) (Or.inr ⟨by rfl,rfl⟩) (by assumption) ?_
 try dsimp only[Act.put]
 refine wpAnyH_take (i:=11) (v:=undef) rfl (by kernel_rfl) (by kernel_rfl) (by kernel_rfl) (fun _ _ _ h=>h) (Or.inr ⟨by rfl,rfl⟩) (by assumption) ?_
 try dsimp only[Act.put]
 refine wpAnyH_take (i:=12) (v:=undef) rfl (by kernel_rfl) (by kernel_rfl) (by kernel_rfl) (fun _ _ _ h=>h) (Or.inr ⟨by rfl,rfl⟩) (by assumption) ?_
 try dsimp only[Act.put]
 refine Tk 13 (.bool false) rfl ?_
 simp[Act.put]
 refine Tk 14 (.bool false) rfl ?_
 simp[Act.put]
 refine wpAnyH_done (by kernel_rfl) ?_ _
 go_wp2
 go_ret
 exact⟨rfl,D7 (by assumption)⟩
theorem Yk (n:Int) (x:ByteArray) (hn : -9223372036854775808<=n/\n<=9223372036854775807) (w:World) :
  Calls Tryz.prog 118 #[.agg #[.int .i64 8,.int .i64 n,.string x]] w fun e w'=>e = .returned (.bool (x.toList.isEmpty && decide (n=Ay 8 (Cb n))))/\Below w.heap.size w w':=by
 by_cases he:Ay 8 (Cb n)=n
 ·have:=Qp n x hn _ rfl he w
  rw[he];simpa using this
 ·have a:¬ n=Ay 8 (Cb n):=fun h=>he h.symm
  have:=Sm n x hn _ rfl he w
  simpa[a]using this
theorem Qq (n:Int) (x:ByteArray) (hn : -9223372036854775808<=n/\n<=9223372036854775807) (m:Int) (HM:Hid (Ay 9 (Cb n)=m)) (he:m=n) (w:World) :
  Calls Tryz.prog 118 #[.agg #[.int .i64 9,.int .i64 n,.string x]] w fun e w'=>e = .returned (.bool x.toList.isEmpty)/\Below w.heap.size w w':=by
 have a:Hid (Bf 9=true):=(by decide:Bf 9=true)
 have c:=Tryz.tk_int32 (.agg #[])
 go_enter Tryz.func118,Tryz.ntmps118
 go_wp2_with (first|(go_at_call 142;refine(Bs _ _).mono ?_;rintro e w' ⟨rfl,rfl⟩;rw[a.out]))
 go_region_held3 (fun w'=>Below (w.heap.size+1) (w.alloc (.cells #[.int .i64 9,.int .i64 n,.string x] 99)) w'/\w'.cell? ⟨w.heap.size,0,none⟩=some (.int .i64 9)/\w'.cell? ⟨w.heap.size,1,none⟩=some (.int .i64 n)/\w'.cell? ⟨w.heap.size,2,none⟩=some (.string x)) (first|assumption|exact Dy (D6 _ _)|exact D8 (by assumption) (by assumption)) (first|(go_at_call 143;refine(Lg _).mono ?_;rintro e w' ⟨rfl,rfl⟩)|(go_at_call 221;refine(Mf _ hn _).mono ?_;rintro e w' ⟨rfl,b⟩;rw[HM.out]))
 go_wp2
 go_ret
 exact⟨rfl,D7 (by assumption)⟩
theorem Sn (n:Int) (x:ByteArray) (hn : -9223372036854775808<=n/\n<=9223372036854775807) (m:Int) (HM:Hid (Ay 9 (Cb n)=m)) (he:¬ m=n) (w:World) :
  Calls Tryz.prog 118 #[.agg #[.int .i64 9,.int .i64 n,.string x]] w fun e w'=>e = .returned (.bool false)/\Below w.heap.size w w':=by
 have a:Hid (Bf 9=true):=(by decide:Bf 9=true)
 have d:=Tryz.tk_int32 (.agg #[])
 have c:(m == n)=false:=by simp[he]
 go_enter Tryz.func118,Tryz.ntmps118
 go_wp2_with (first|(go_at_call 142;refine(Bs _ _).mono ?_;rintro e w' ⟨rfl,rfl⟩;rw[a.out]))
 refine wp_region_held_drew (S:=(fun w'=>Below (w.heap.size+1) (w.alloc (.cells #[.int .i64 9,.int .i64 n,.string x] 99)) w'/\w'.cell? ⟨w.heap.size,0,none⟩=some (.int .i64 9)/\w'.cell? ⟨w.heap.size,1,none⟩=some (.int .i64 n)/\w'.cell? ⟨w.heap.size,2,none⟩=some (.string x))) (by kernel_rfl) (Dy (D6 _ _)) (fun hHeld => ?_)
 refine Tk 0 (.pointer (some ⟨w.heap.size,0,none⟩)) rfl ?_
 try dsimp only[Act.put]
 refine Tk 1 (.int .i64 9) rfl ?_
 try dsimp only[Act.put]
 refine Tk 3 (.pointer (some ⟨w.heap.size,1,none⟩)) rfl ?_
 try dsimp only[Act.put]
 refine Tk 4 (.int .i64 n) rfl ?_
 try dsimp only[Act.put]
 refine Tk 6 (.pointer (some ⟨w.heap.size,1,none⟩)) rfl ?_
 try dsimp only[Act.put]
 refine Tk 7 (.int .i64 n) rfl ?_
 try dsimp only[Act.put]
 refine wpAnyH_ready (rs:=[2]) (by kernel_rfl) (by simp) ?_
 refine AllReadyH.cons rfl (fun K hK => ?_) AllReadyH.nil
 go_simp
 (go_at_call 143;refine(Lg _).mono ?_;rintro e w' ⟨rfl,rfl⟩)
 go_wp2
 refine hK.out _ _ (by assumption) (fun hHeld => ?_)
 clear hK
 try dsimp only[Act.put]
 refine wpAnyH_ready (rs:=[5]) (by kernel_rfl) (by simp) ?_
 refine AllReadyH.cons rfl (fun K hK => ?_) AllReadyH.nil
 go_simp
 (go_at_call 221;refine(Mf _ hn _).mono ?_;rintro e w' ⟨rfl,b⟩;rw[HM.out])
 go_wp2
 refine hK.out _ _ (D8 (by assumption) b) (fun hHeld => ?_)
 clear hK
 try dsimp only[Act.put]
 refine Tk 8 (.bool false) rfl ?_
 try dsimp only[Act.put]
 refine Tk 9 (.bool false) rfl ?_
 try dsimp only[Act.put]
 refine wpAnyH_take (i:=10) (v:=undef) rfl (by kernel_rfl) (by kernel_rfl) (by kernel_rfl) (fun _ _ _ h=>h) (Or.inr ⟨by rfl,rfl⟩) (by assumption) ?_
 try dsimp only[Act.put]
 refine wpAnyH_take (i:=11) (v:=undef) rfl (by kernel_rfl) (by kernel_rfl) (by kernel_rfl) (fun _ _ _ h=>h) (Or.inr ⟨by rfl,rfl⟩) (by assumption) ?_
 try dsimp only[Act.put]
 refine wpAnyH_take (i:=12) (v:=undef) rfl (by kernel_rfl) (by kernel_rfl) (by kernel_rfl) (fun _ _ _ h=>h) (Or.inr ⟨by rfl,rfl⟩) (by assumption) ?_
 try dsimp only[Act.put]
 refine Tk 13 (.bool false) rfl ?_
 simp[Act.put]
 refine Tk 14 (.bool false) rfl ?_
 simp[Act.put]
 refine wpAnyH_done (by kernel_rfl) ?_ _
 go_wp2
 go_ret
 exact⟨rfl,D7 (by assumption)⟩
theorem Yl (n:Int) (x:ByteArray) (hn : -9223372036854775808<=n/\n<=9223372036854775807) (w:World) :
  Calls Tryz.prog 118 #[.agg #[.int .i64 9,.int .i64 n,.string x]] w fun e w'=>e = .returned (.bool (x.toList.isEmpty && decide (n=Ay 9 (Cb n))))/\Below w.heap.size w w':=by
 by_cases he:Ay 9 (Cb n)=n
 ·have:=Qq n x hn _ rfl he w
  rw[he];simpa using this
 ·have a:¬ n=Ay 9 (Cb n):=fun h=>he h.symm
  have:=Sn n x hn _ rfl he w
  simpa[a]using this
theorem Qr (n:Int) (x:ByteArray) (hn : -9223372036854775808<=n/\n<=9223372036854775807) (m:Int) (HM:Hid (Ay 10 (Cb n)=m)) (he:m=n) (w:World) :
  Calls Tryz.prog 118 #[.agg #[.int .i64 10,.int .i64 n,.string x]] w fun e w'=>e = .returned (.bool x.toList.isEmpty)/\Below w.heap.size w w':=by
 have a:Hid (Bf 10=true):=(by decide:Bf 10=true)
 have c:=Tryz.tk_int64 (.agg #[])
 go_enter Tryz.func118,Tryz.ntmps118
 go_wp2_with (first|(go_at_call 142;refine(Bs _ _).mono ?_;rintro e w' ⟨rfl,rfl⟩;rw[a.out]))
 go_region_held3 (fun w'=>Below (w.heap.size+1) (w.alloc (.cells #[.int .i64 10,.int .i64 n,.string x] 99)) w'/\w'.cell? ⟨w.heap.size,0,none⟩=some (.int .i64 10)/\w'.cell? ⟨w.heap.size,1,none⟩=some (.int .i64 n)/\w'.cell? ⟨w.heap.size,2,none⟩=some (.string x)) (first|assumption|exact Dy (D6 _ _)|exact D8 (by assumption) (by assumption)) (first|(go_at_call 143;refine(Lh _).mono ?_;rintro e w' ⟨rfl,rfl⟩)|(go_at_call 225;refine(Mg _ hn _).mono ?_;rintro e w' ⟨rfl,b⟩;rw[HM.out]))
 go_wp2
 go_ret
 exact⟨rfl,D7 (by assumption)⟩
theorem So (n:Int) (x:ByteArray) (hn : -9223372036854775808<=n/\n<=9223372036854775807) (m:Int) (HM:Hid (Ay 10 (Cb n)=m)) (he:¬ m=n) (w:World) :
  Calls Tryz.prog 118 #[.agg #[.int .i64 10,.int .i64 n,.string x]] w fun e w'=>e = .returned (.bool false)/\Below w.heap.size w w':=by
 have a:Hid (Bf 10=true):=(by decide:Bf 10=true)
 have d:=Tryz.tk_int64 (.agg #[])
 have c:(m == n)=false:=by simp[he]
 go_enter Tryz.func118,Tryz.ntmps118
 go_wp2_with (first|(go_at_call 142;refine(Bs _ _).mono ?_;rintro e w' ⟨rfl,rfl⟩;rw[a.out]))
 refine wp_region_held_drew (S:=(fun w'=>Below (w.heap.size+1) (w.alloc (.cells #[.int .i64 10,.int .i64 n,.string x] 99)) w'/\w'.cell? ⟨w.heap.size,0,none⟩=some (.int .i64 10)/\w'.cell? ⟨w.heap.size,1,none⟩=some (.int .i64 n)/\w'.cell? ⟨w.heap.size,2,none⟩=some (.string x))) (by kernel_rfl) (Dy (D6 _ _)) (fun hHeld => ?_)
 refine Tk 0 (.pointer (some ⟨w.heap.size,0,none⟩)) rfl ?_
 try dsimp only[Act.put]
 refine Tk 1 (.int .i64 10) rfl ?_
 try dsimp only[Act.put]
 refine Tk 3 (.pointer (some ⟨w.heap.size,1,none⟩)) rfl ?_
 try dsimp only[Act.put]
 refine Tk 4 (.int .i64 n) rfl ?_
 try dsimp only[Act.put]
 refine Tk 6 (.pointer (some ⟨w.heap.size,1,none⟩)) rfl ?_
 try dsimp only[Act.put]
 refine Tk 7 (.int .i64 n) rfl ?_
 try dsimp only[Act.put]
 refine wpAnyH_ready (rs:=[2]) (by kernel_rfl) (by simp) ?_
 refine AllReadyH.cons rfl (fun K hK => ?_) AllReadyH.nil
 go_simp
 (go_at_call 143;refine(Lh _).mono ?_;rintro e w' ⟨rfl,rfl⟩)
 go_wp2
 refine hK.out _ _ (by assumption) (fun hHeld => ?_)
 clear hK
 try dsimp only[Act.put]
 refine wpAnyH_ready (rs:=[5]) (by kernel_rfl) (by simp) ?_
 refine AllReadyH.cons rfl (fun K hK => ?_) AllReadyH.nil
 go_simp
 (go_at_call 225;refine(Mg _ hn _).mono ?_;rintro e w' ⟨rfl,b⟩;rw[HM.out])
 go_wp2
 refine hK.out _ _ (D8 (by assumption) b) (fun hHeld => ?_)
 clear hK
 try dsimp only[Act.put]
 refine Tk 8 (.bool false) rfl ?_
 try dsimp only[Act.put]
 refine Tk 9 (.bool false) rfl ?_
 try dsimp only[Act.put]
 refine wpAnyH_take (i:=10) (v:=undef) rfl (by kernel_rfl) (by kernel_rfl) (by kernel_rfl) (fun _ _ _ h=>h) (Or.inr ⟨by rfl,rfl⟩) (by assumption) ?_
 try dsimp only[Act.put]
 refine wpAnyH_take (i:=11) (v:=undef) rfl (by kernel_rfl) (by kernel_rfl) (by kernel_rfl) (fun _ _ _ h=>h) (Or.inr ⟨by rfl,rfl⟩) (by assumption) ?_
 try dsimp only[Act.put]
 refine wpAnyH_take (i:=12) (v:=undef) rfl (by kernel_rfl) (by kernel_rfl) (by kernel_rfl) (fun _ _ _ h=>h) (Or.inr ⟨by rfl,rfl⟩) (by assumption) ?_
 try dsimp only[Act.put]
 refine Tk 13 (.bool false) rfl ?_
 simp[Act.put]
 refine Tk 14 (.bool false) rfl ?_
 simp[Act.put]
 refine wpAnyH_done (by kernel_rfl) ?_ _
 go_wp2
 go_ret
 exact⟨rfl,D7 (by assumption)⟩
theorem Ym (n:Int) (x:ByteArray) (hn : -9223372036854775808<=n/\n<=9223372036854775807) (w:World) :
  Calls Tryz.prog 118 #[.agg #[.int .i64 10,.int .i64 n,.string x]] w fun e w'=>e = .returned (.bool (x.toList.isEmpty && decide (n=Ay 10 (Cb n))))/\Below w.heap.size w w':=by
 by_cases he:Ay 10 (Cb n)=n
 ·have:=Qr n x hn _ rfl he w
  rw[he];simpa using this
 ·have a:¬ n=Ay 10 (Cb n):=fun h=>he h.symm
  have:=So n x hn _ rfl he w
  simpa[a]using this
end Go.Proofs.YtfjkahdghhbpnaaGreatDoor
