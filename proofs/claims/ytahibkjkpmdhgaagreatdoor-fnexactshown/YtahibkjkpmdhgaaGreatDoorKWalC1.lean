import Derived.Test.YtahibkjkpmdhgaaGreatDoorKTk
import Derived.Test.YtahibkjkpmdhgaaGreatDoorKValC
set_option maxRecDepth 100000
set_option maxHeartbeats 1000000
namespace Go.Proofs.YtahibkjkpmdhgaaGreatDoor
open Go.RowKit
theorem Rf (n:Int) (x:ByteArray) (hn : -9223372036854775808<=n/\n<=9223372036854775807) (m:Int) (HM:Hid (Ay 3 (Cb n)=m)) (he:m=n) (w:World) :
  Calls Tryz.prog 132 #[.agg #[.int .i64 3,.int .i64 n,.string x]] w fun e w'=>e = .returned (.bool x.toList.isEmpty)/\OH w w':=by
 have a:Hid (Bc 3=true):=(by decide:Bc 3=true);have c:=Tryz.tk_uint8 (.agg #[]);go_enter Tryz.func132,Tryz.ntmps132;go_wp2_with (first|(go_at_call 160;refine(Bn _ _).mono ?_;rintro e w' ⟨rfl,rfl⟩;rw[a.out]));go_region_held3 (fun w'=>Below (w.heap.size+1) (w.alloc (.cells #[.int .i64 3,.int .i64 n,.string x] 132)) w'/\w'.cell? (OK w 0)=some (.int .i64 3)/\w'.cell? (OK w 1)=some (.int .i64 n)/\w'.cell? (OK w 2)=some (.string x)) (first|assumption|exact Ef (Eo _ _)|exact Er OC OC) (first|(go_at_call 161;refine(L8 _).mono ?_;rintro e w' ⟨rfl,rfl⟩)|(go_at_call 204;refine(Nk _ hn _).mono ?_;rintro e w' ⟨rfl,b⟩;rw[HM.out]));go_wp2;go_ret;exact⟨rfl,Ep OC⟩
theorem Tj (n:Int) (x:ByteArray) (hn : -9223372036854775808<=n/\n<=9223372036854775807) (m:Int) (HM:Hid (Ay 3 (Cb n)=m)) (he:¬ m=n) (w:World) :
  Calls Tryz.prog 132 #[.agg #[.int .i64 3,.int .i64 n,.string x]] w fun e w'=>e = .returned (.bool false)/\OH w w':=by
 have a:Hid (Bc 3=true):=(by decide:Bc 3=true);have d:=Tryz.tk_uint8 (.agg #[]);have c:(m == n)=false:=by simp[he]
 go_enter Tryz.func132,Tryz.ntmps132;go_wp2_with (first|(go_at_call 160;refine(Bn _ _).mono ?_;rintro e w' ⟨rfl,rfl⟩;rw[a.out]));refine wp_region_held_drew (S:=(fun w'=>Below (w.heap.size+1) (w.alloc (.cells #[.int .i64 3,.int .i64 n,.string x] 132)) w'/\w'.cell? (OK w 0)=some (.int .i64 3)/\w'.cell? (OK w 1)=some (.int .i64 n)/\w'.cell? (OK w 2)=some (.string x))) OA (Ef (Eo _ _)) fun _=>?_
 refine Tk 0 (.pointer (some (OK w 0))) ?_;try dsimp only[Act.put]
 refine Tk 1 (.int .i64 3) ?_;try dsimp only[Act.put]
 refine Tk 3 (.pointer (some (OK w 1))) ?_;try dsimp only[Act.put]
 refine Tk 4 (.int .i64 n) ?_;try dsimp only[Act.put]
 refine Tk 6 (.pointer (some (OK w 1))) ?_;try dsimp only[Act.put]
 refine Tk 7 (.int .i64 n) ?_;try dsimp only[Act.put]
 refine wpAnyH_ready (rs:=[2]) OA OB ?_;refine AllReadyH.cons rfl (fun K hK => ?_) AllReadyH.nil;go_simp;(go_at_call 161;refine(L8 _).mono ?_;rintro e w' ⟨rfl,rfl⟩);go_wp2;refine hK.out _ _ OC fun _=>?_
 clear hK;try dsimp only[Act.put]
 refine wpAnyH_ready (rs:=[5]) OA OB ?_;refine AllReadyH.cons rfl (fun K hK => ?_) AllReadyH.nil;go_simp;(go_at_call 204;refine(Nk _ hn _).mono ?_;rintro e w' ⟨rfl,b⟩;rw[HM.out]);go_wp2;refine hK.out _ _ (Er OC b) fun _=>?_
 clear hK;try dsimp only[Act.put]
 refine Tk 8 (.bool false) ?_;try dsimp only[Act.put]
 refine Tk 9 (.bool false) ?_;try dsimp only[Act.put]
 refine Ts 10 ?_;try dsimp only[Act.put]
 refine Ts 11 ?_;try dsimp only[Act.put]
 refine Ts 12 ?_;try dsimp only[Act.put]
 refine Tk 13 (.bool false) ?_;simp[Act.put];refine Tk 14 (.bool false) ?_;simp[Act.put];refine wpAnyH_done OA ?_ _;go_wp2;go_ret;exact⟨rfl,Ep OC⟩
theorem Qac (n:Int) (x:ByteArray) (hn : -9223372036854775808<=n/\n<=9223372036854775807) (w:World) :
  Calls Tryz.prog 132 #[.agg #[.int .i64 3,.int .i64 n,.string x]] w fun e w'=>e = .returned (.bool (x.toList.isEmpty && decide (n=Ay 3 (Cb n))))/\OH w w':=by
 by_cases he:Ay 3 (Cb n)=n
 ·have:=Rf n x hn _ rfl he w;rw[he];simpa using this
 ·have a:¬ n=Ay 3 (Cb n):=fun h=>he h.symm
  have:=Tj n x hn _ rfl he w;simpa[a]using this
theorem Qp (n:Int) (x:ByteArray) (hn : -9223372036854775808<=n/\n<=9223372036854775807) (m:Int) (HM:Hid (Ay 4 (Cb n)=m)) (he:m=n) (w:World) :
  Calls Tryz.prog 132 #[.agg #[.int .i64 4,.int .i64 n,.string x]] w fun e w'=>e = .returned (.bool x.toList.isEmpty)/\OH w w':=by
 have a:Hid (Bc 4=true):=(by decide:Bc 4=true);have c:=Tryz.tk_uint16 (.agg #[]);go_enter Tryz.func132,Tryz.ntmps132;go_wp2_with (first|(go_at_call 160;refine(Bn _ _).mono ?_;rintro e w' ⟨rfl,rfl⟩;rw[a.out]));go_region_held3 (fun w'=>Below (w.heap.size+1) (w.alloc (.cells #[.int .i64 4,.int .i64 n,.string x] 132)) w'/\w'.cell? (OK w 0)=some (.int .i64 4)/\w'.cell? (OK w 1)=some (.int .i64 n)/\w'.cell? (OK w 2)=some (.string x)) (first|assumption|exact Ef (Eo _ _)|exact Er OC OC) (first|(go_at_call 161;refine(Ln _).mono ?_;rintro e w' ⟨rfl,rfl⟩)|(go_at_call 208;refine(Ma _ hn _).mono ?_;rintro e w' ⟨rfl,b⟩;rw[HM.out]));go_wp2;go_ret;exact⟨rfl,Ep OC⟩
theorem Q8 (n:Int) (x:ByteArray) (hn : -9223372036854775808<=n/\n<=9223372036854775807) (m:Int) (HM:Hid (Ay 4 (Cb n)=m)) (he:¬ m=n) (w:World) :
  Calls Tryz.prog 132 #[.agg #[.int .i64 4,.int .i64 n,.string x]] w fun e w'=>e = .returned (.bool false)/\OH w w':=by
 have a:Hid (Bc 4=true):=(by decide:Bc 4=true);have d:=Tryz.tk_uint16 (.agg #[]);have c:(m == n)=false:=by simp[he]
 go_enter Tryz.func132,Tryz.ntmps132;go_wp2_with (first|(go_at_call 160;refine(Bn _ _).mono ?_;rintro e w' ⟨rfl,rfl⟩;rw[a.out]));refine wp_region_held_drew (S:=(fun w'=>Below (w.heap.size+1) (w.alloc (.cells #[.int .i64 4,.int .i64 n,.string x] 132)) w'/\w'.cell? (OK w 0)=some (.int .i64 4)/\w'.cell? (OK w 1)=some (.int .i64 n)/\w'.cell? (OK w 2)=some (.string x))) OA (Ef (Eo _ _)) fun _=>?_
 refine Tk 0 (.pointer (some (OK w 0))) ?_;try dsimp only[Act.put]
 refine Tk 1 (.int .i64 4) ?_;try dsimp only[Act.put]
 refine Tk 3 (.pointer (some (OK w 1))) ?_;try dsimp only[Act.put]
 refine Tk 4 (.int .i64 n) ?_;try dsimp only[Act.put]
 refine Tk 6 (.pointer (some (OK w 1))) ?_;try dsimp only[Act.put]
 refine Tk 7 (.int .i64 n) ?_;try dsimp only[Act.put]
 refine wpAnyH_ready (rs:=[2]) OA OB ?_;refine AllReadyH.cons rfl (fun K hK => ?_) AllReadyH.nil;go_simp;(go_at_call 161;refine(Ln _).mono ?_;rintro e w' ⟨rfl,rfl⟩);go_wp2;refine hK.out _ _ OC fun _=>?_
 clear hK;try dsimp only[Act.put]
 refine wpAnyH_ready (rs:=[5]) OA OB ?_;refine AllReadyH.cons rfl (fun K hK => ?_) AllReadyH.nil;go_simp;(go_at_call 208;refine(Ma _ hn _).mono ?_;rintro e w' ⟨rfl,b⟩;rw[HM.out]);go_wp2;refine hK.out _ _ (Er OC b) fun _=>?_
 clear hK;try dsimp only[Act.put]
 refine Tk 8 (.bool false) ?_;try dsimp only[Act.put]
 refine Tk 9 (.bool false) ?_;try dsimp only[Act.put]
 refine Ts 10 ?_;try dsimp only[Act.put]
 refine Ts 11 ?_;try dsimp only[Act.put]
 refine Ts 12 ?_;try dsimp only[Act.put]
 refine Tk 13 (.bool false) ?_;simp[Act.put];refine Tk 14 (.bool false) ?_;simp[Act.put];refine wpAnyH_done OA ?_ _;go_wp2;go_ret;exact⟨rfl,Ep OC⟩
theorem Xw (n:Int) (x:ByteArray) (hn : -9223372036854775808<=n/\n<=9223372036854775807) (w:World) :
  Calls Tryz.prog 132 #[.agg #[.int .i64 4,.int .i64 n,.string x]] w fun e w'=>e = .returned (.bool (x.toList.isEmpty && decide (n=Ay 4 (Cb n))))/\OH w w':=by
 by_cases he:Ay 4 (Cb n)=n
 ·have:=Qp n x hn _ rfl he w;rw[he];simpa using this
 ·have a:¬ n=Ay 4 (Cb n):=fun h=>he h.symm
  have:=Q8 n x hn _ rfl he w;simpa[a]using this
theorem Qq (n:Int) (x:ByteArray) (hn : -9223372036854775808<=n/\n<=9223372036854775807) (m:Int) (HM:Hid (Ay 5 (Cb n)=m)) (he:m=n) (w:World) :
  Calls Tryz.prog 132 #[.agg #[.int .i64 5,.int .i64 n,.string x]] w fun e w'=>e = .returned (.bool x.toList.isEmpty)/\OH w w':=by
 have a:Hid (Bc 5=true):=(by decide:Bc 5=true);have c:=Tryz.tk_uint32 (.agg #[]);go_enter Tryz.func132,Tryz.ntmps132;go_wp2_with (first|(go_at_call 160;refine(Bn _ _).mono ?_;rintro e w' ⟨rfl,rfl⟩;rw[a.out]));go_region_held3 (fun w'=>Below (w.heap.size+1) (w.alloc (.cells #[.int .i64 5,.int .i64 n,.string x] 132)) w'/\w'.cell? (OK w 0)=some (.int .i64 5)/\w'.cell? (OK w 1)=some (.int .i64 n)/\w'.cell? (OK w 2)=some (.string x)) (first|assumption|exact Ef (Eo _ _)|exact Er OC OC) (first|(go_at_call 161;refine(Lo _).mono ?_;rintro e w' ⟨rfl,rfl⟩)|(go_at_call 212;refine(Mb _ hn _).mono ?_;rintro e w' ⟨rfl,b⟩;rw[HM.out]));go_wp2;go_ret;exact⟨rfl,Ep OC⟩
theorem Q9 (n:Int) (x:ByteArray) (hn : -9223372036854775808<=n/\n<=9223372036854775807) (m:Int) (HM:Hid (Ay 5 (Cb n)=m)) (he:¬ m=n) (w:World) :
  Calls Tryz.prog 132 #[.agg #[.int .i64 5,.int .i64 n,.string x]] w fun e w'=>e = .returned (.bool false)/\OH w w':=by
 have a:Hid (Bc 5=true):=(by decide:Bc 5=true);have d:=Tryz.tk_uint32 (.agg #[]);have c:(m == n)=false:=by simp[he]
 go_enter Tryz.func132,Tryz.ntmps132;go_wp2_with (first|(go_at_call 160;refine(Bn _ _).mono ?_;rintro e w' ⟨rfl,rfl⟩;rw[a.out]));refine wp_region_held_drew (S:=(fun w'=>Below (w.heap.size+1) (w.alloc (.cells #[.int .i64 5,.int .i64 n,.string x] 132)) w'/\w'.cell? (OK w 0)=some (.int .i64 5)/\w'.cell? (OK w 1)=some (.int .i64 n)/\w'.cell? (OK w 2)=some (.string x))) OA (Ef (Eo _ _)) fun _=>?_
 refine Tk 0 (.pointer (some (OK w 0))) ?_;try dsimp only[Act.put]
 refine Tk 1 (.int .i64 5) ?_;try dsimp only[Act.put]
 refine Tk 3 (.pointer (some (OK w 1))) ?_;try dsimp only[Act.put]
 refine Tk 4 (.int .i64 n) ?_;try dsimp only[Act.put]
 refine Tk 6 (.pointer (some (OK w 1))) ?_;try dsimp only[Act.put]
 refine Tk 7 (.int .i64 n) ?_;try dsimp only[Act.put]
 refine wpAnyH_ready (rs:=[2]) OA OB ?_;refine AllReadyH.cons rfl (fun K hK => ?_) AllReadyH.nil;go_simp;(go_at_call 161;refine(Lo _).mono ?_;rintro e w' ⟨rfl,rfl⟩);go_wp2;refine hK.out _ _ OC fun _=>?_
 clear hK;try dsimp only[Act.put]
 refine wpAnyH_ready (rs:=[5]) OA OB ?_;refine AllReadyH.cons rfl (fun K hK => ?_) AllReadyH.nil;go_simp;(go_at_call 212;refine(Mb _ hn _).mono ?_;rintro e w' ⟨rfl,b⟩;rw[HM.out]);go_wp2;refine hK.out _ _ (Er OC b) fun _=>?_
 clear hK;try dsimp only[Act.put]
 refine Tk 8 (.bool false) ?_;try dsimp only[Act.put]
 refine Tk 9 (.bool false) ?_;try dsimp only[Act.put]
 refine Ts 10 ?_;try dsimp only[Act.put]
 refine Ts 11 ?_;try dsimp only[Act.put]
 refine Ts 12 ?_;try dsimp only[Act.put]
 refine Tk 13 (.bool false) ?_;simp[Act.put];refine Tk 14 (.bool false) ?_;simp[Act.put];refine wpAnyH_done OA ?_ _;go_wp2;go_ret;exact⟨rfl,Ep OC⟩
theorem Xx (n:Int) (x:ByteArray) (hn : -9223372036854775808<=n/\n<=9223372036854775807) (w:World) :
  Calls Tryz.prog 132 #[.agg #[.int .i64 5,.int .i64 n,.string x]] w fun e w'=>e = .returned (.bool (x.toList.isEmpty && decide (n=Ay 5 (Cb n))))/\OH w w':=by
 by_cases he:Ay 5 (Cb n)=n
 ·have:=Qq n x hn _ rfl he w;rw[he];simpa using this
 ·have a:¬ n=Ay 5 (Cb n):=fun h=>he h.symm
  have:=Q9 n x hn _ rfl he w;simpa[a]using this
theorem Qr (n:Int) (x:ByteArray) (hn : -9223372036854775808<=n/\n<=9223372036854775807) (m:Int) (HM:Hid (Ay 6 (Cb n)=m)) (he:m=n) (w:World) :
  Calls Tryz.prog 132 #[.agg #[.int .i64 6,.int .i64 n,.string x]] w fun e w'=>e = .returned (.bool x.toList.isEmpty)/\OH w w':=by
 have a:Hid (Bc 6=true):=(by decide:Bc 6=true);have c:=Tryz.tk_uint64 (.agg #[]);go_enter Tryz.func132,Tryz.ntmps132;go_wp2_with (first|(go_at_call 160;refine(Bn _ _).mono ?_;rintro e w' ⟨rfl,rfl⟩;rw[a.out]));go_region_held3 (fun w'=>Below (w.heap.size+1) (w.alloc (.cells #[.int .i64 6,.int .i64 n,.string x] 132)) w'/\w'.cell? (OK w 0)=some (.int .i64 6)/\w'.cell? (OK w 1)=some (.int .i64 n)/\w'.cell? (OK w 2)=some (.string x)) (first|assumption|exact Ef (Eo _ _)|exact Er OC OC) (first|(go_at_call 161;refine(Lp _).mono ?_;rintro e w' ⟨rfl,rfl⟩)|(go_at_call 216;refine(Mc _ hn _).mono ?_;rintro e w' ⟨rfl,b⟩;rw[HM.out]));go_wp2;go_ret;exact⟨rfl,Ep OC⟩
theorem Ra (n:Int) (x:ByteArray) (hn : -9223372036854775808<=n/\n<=9223372036854775807) (m:Int) (HM:Hid (Ay 6 (Cb n)=m)) (he:¬ m=n) (w:World) :
  Calls Tryz.prog 132 #[.agg #[.int .i64 6,.int .i64 n,.string x]] w fun e w'=>e = .returned (.bool false)/\OH w w':=by
 have a:Hid (Bc 6=true):=(by decide:Bc 6=true);have d:=Tryz.tk_uint64 (.agg #[]);have c:(m == n)=false:=by simp[he]
 go_enter Tryz.func132,Tryz.ntmps132;go_wp2_with (first|(go_at_call 160;refine(Bn _ _).mono ?_;rintro e w' ⟨rfl,rfl⟩;rw[a.out]));refine wp_region_held_drew (S:=(fun w'=>Below (w.heap.size+1) (w.alloc (.cells #[.int .i64 6,.int .i64 n,.string x] 132)) w'/\w'.cell? (OK w 0)=some (.int .i64 6)/\w'.cell? (OK w 1)=some (.int .i64 n)/\w'.cell? (OK w 2)=some (.string x))) OA (Ef (Eo _ _)) fun _=>?_
 refine Tk 0 (.pointer (some (OK w 0))) ?_;try dsimp only[Act.put]
 refine Tk 1 (.int .i64 6) ?_;try dsimp only[Act.put]
 refine Tk 3 (.pointer (some (OK w 1))) ?_;try dsimp only[Act.put]
 refine Tk 4 (.int .i64 n) ?_;try dsimp only[Act.put]
 refine Tk 6 (.pointer (some (OK w 1))) ?_;try dsimp only[Act.put]
 refine Tk 7 (.int .i64 n) ?_;try dsimp only[Act.put]
 refine wpAnyH_ready (rs:=[2]) OA OB ?_;refine AllReadyH.cons rfl (fun K hK => ?_) AllReadyH.nil;go_simp;(go_at_call 161;refine(Lp _).mono ?_;rintro e w' ⟨rfl,rfl⟩);go_wp2;refine hK.out _ _ OC fun _=>?_
 clear hK;try dsimp only[Act.put]
 refine wpAnyH_ready (rs:=[5]) OA OB ?_;refine AllReadyH.cons rfl (fun K hK => ?_) AllReadyH.nil;go_simp;(go_at_call 216;refine(Mc _ hn _).mono ?_;rintro e w' ⟨rfl,b⟩;rw[HM.out]);go_wp2;refine hK.out _ _ (Er OC b) fun _=>?_
 clear hK;try dsimp only[Act.put]
 refine Tk 8 (.bool false) ?_;try dsimp only[Act.put]
 refine Tk 9 (.bool false) ?_;try dsimp only[Act.put]
 refine Ts 10 ?_;try dsimp only[Act.put]
 refine Ts 11 ?_;try dsimp only[Act.put]
 refine Ts 12 ?_;try dsimp only[Act.put]
 refine Tk 13 (.bool false) ?_;simp[Act.put];refine Tk 14 (.bool false) ?_;simp[Act.put];refine wpAnyH_done OA ?_ _;go_wp2;go_ret;exact⟨rfl,Ep OC⟩
theorem Xy (n:Int) (x:ByteArray) (hn : -9223372036854775808<=n/\n<=9223372036854775807) (w:World) :
  Calls Tryz.prog 132 #[.agg #[.int .i64 6,.int .i64 n,.string x]] w fun e w'=>e = .returned (.bool (x.toList.isEmpty && decide (n=Ay 6 (Cb n))))/\OH w w':=by
 by_cases he:Ay 6 (Cb n)=n
 ·have:=Qr n x hn _ rfl he w;rw[he];simpa using this
 ·have a:¬ n=Ay 6 (Cb n):=fun h=>he h.symm
  have:=Ra n x hn _ rfl he w;simpa[a]using this
theorem Tl (n:Int) (x:ByteArray) (hn : -9223372036854775808<=n/\n<=9223372036854775807) (m:Int) (HM:Hid (Ay 7 (Cb n)=m)) (he:m=n) (w:World) :
  Calls Tryz.prog 132 #[.agg #[.int .i64 7,.int .i64 n,.string x]] w fun e w'=>e = .returned (.bool x.toList.isEmpty)/\OH w w':=by
 have a:Hid (Bc 7=true):=(by decide:Bc 7=true);have c:=Tryz.tk_int8 (.agg #[]);go_enter Tryz.func132,Tryz.ntmps132;go_wp2_with (first|(go_at_call 160;refine(Bn _ _).mono ?_;rintro e w' ⟨rfl,rfl⟩;rw[a.out]));go_region_held3 (fun w'=>Below (w.heap.size+1) (w.alloc (.cells #[.int .i64 7,.int .i64 n,.string x] 132)) w'/\w'.cell? (OK w 0)=some (.int .i64 7)/\w'.cell? (OK w 1)=some (.int .i64 n)/\w'.cell? (OK w 2)=some (.string x)) (first|assumption|exact Ef (Eo _ _)|exact Er OC OC) (first|(go_at_call 161;refine(Nf _).mono ?_;rintro e w' ⟨rfl,rfl⟩)|(go_at_call 220;refine(Oa _ hn _).mono ?_;rintro e w' ⟨rfl,b⟩;rw[HM.out]));go_wp2;go_ret;exact⟨rfl,Ep OC⟩
theorem Vn (n:Int) (x:ByteArray) (hn : -9223372036854775808<=n/\n<=9223372036854775807) (m:Int) (HM:Hid (Ay 7 (Cb n)=m)) (he:¬ m=n) (w:World) :
  Calls Tryz.prog 132 #[.agg #[.int .i64 7,.int .i64 n,.string x]] w fun e w'=>e = .returned (.bool false)/\OH w w':=by
 have a:Hid (Bc 7=true):=(by decide:Bc 7=true);have d:=Tryz.tk_int8 (.agg #[]);have c:(m == n)=false:=by simp[he]
 go_enter Tryz.func132,Tryz.ntmps132;go_wp2_with (first|(go_at_call 160;refine(Bn _ _).mono ?_;rintro e w' ⟨rfl,rfl⟩;rw[a.out]));refine wp_region_held_drew (S:=(fun w'=>Below (w.heap.size+1) (w.alloc (.cells #[.int .i64 7,.int .i64 n,.string x] 132)) w'/\w'.cell? (OK w 0)=some (.int .i64 7)/\w'.cell? (OK w 1)=some (.int .i64 n)/\w'.cell? (OK w 2)=some (.string x))) OA (Ef (Eo _ _)) fun _=>?_
 refine Tk 0 (.pointer (some (OK w 0))) ?_;try dsimp only[Act.put]
 refine Tk 1 (.int .i64 7) ?_;try dsimp only[Act.put]
 refine Tk 3 (.pointer (some (OK w 1))) ?_;try dsimp only[Act.put]
 refine Tk 4 (.int .i64 n) ?_;try dsimp only[Act.put]
 refine Tk 6 (.pointer (some (OK w 1))) ?_;try dsimp only[Act.put]
 refine Tk 7 (.int .i64 n) ?_;try dsimp only[Act.put]
 refine wpAnyH_ready (rs:=[2]) OA OB ?_;refine AllReadyH.cons rfl (fun K hK => ?_) AllReadyH.nil;go_simp;(go_at_call 161;refine(Nf _).mono ?_;rintro e w' ⟨rfl,rfl⟩);go_wp2;refine hK.out _ _ OC fun _=>?_
 clear hK;try dsimp only[Act.put]
 refine wpAnyH_ready (rs:=[5]) OA OB ?_;refine AllReadyH.cons rfl (fun K hK => ?_) AllReadyH.nil;go_simp;(go_at_call 220;refine(Oa _ hn _).mono ?_;rintro e w' ⟨rfl,b⟩;rw[HM.out]);go_wp2;refine hK.out _ _ (Er OC b) fun _=>?_
 clear hK;try dsimp only[Act.put]
 refine Tk 8 (.bool false) ?_;try dsimp only[Act.put]
 refine Tk 9 (.bool false) ?_;try dsimp only[Act.put]
 refine Ts 10 ?_;try dsimp only[Act.put]
 refine Ts 11 ?_;try dsimp only[Act.put]
 refine Ts 12 ?_;try dsimp only[Act.put]
 refine Tk 13 (.bool false) ?_;simp[Act.put];refine Tk 14 (.bool false) ?_;simp[Act.put];refine wpAnyH_done OA ?_ _;go_wp2;go_ret;exact⟨rfl,Ep OC⟩
theorem Qcq (n:Int) (x:ByteArray) (hn : -9223372036854775808<=n/\n<=9223372036854775807) (w:World) :
  Calls Tryz.prog 132 #[.agg #[.int .i64 7,.int .i64 n,.string x]] w fun e w'=>e = .returned (.bool (x.toList.isEmpty && decide (n=Ay 7 (Cb n))))/\OH w w':=by
 by_cases he:Ay 7 (Cb n)=n
 ·have:=Tl n x hn _ rfl he w;rw[he];simpa using this
 ·have a:¬ n=Ay 7 (Cb n):=fun h=>he h.symm
  have:=Vn n x hn _ rfl he w;simpa[a]using this
theorem Rb (n:Int) (x:ByteArray) (hn : -9223372036854775808<=n/\n<=9223372036854775807) (m:Int) (HM:Hid (Ay 8 (Cb n)=m)) (he:m=n) (w:World) :
  Calls Tryz.prog 132 #[.agg #[.int .i64 8,.int .i64 n,.string x]] w fun e w'=>e = .returned (.bool x.toList.isEmpty)/\OH w w':=by
 have a:Hid (Bc 8=true):=(by decide:Bc 8=true);have c:=Tryz.tk_int16 (.agg #[]);go_enter Tryz.func132,Tryz.ntmps132;go_wp2_with (first|(go_at_call 160;refine(Bn _ _).mono ?_;rintro e w' ⟨rfl,rfl⟩;rw[a.out]));go_region_held3 (fun w'=>Below (w.heap.size+1) (w.alloc (.cells #[.int .i64 8,.int .i64 n,.string x] 132)) w'/\w'.cell? (OK w 0)=some (.int .i64 8)/\w'.cell? (OK w 1)=some (.int .i64 n)/\w'.cell? (OK w 2)=some (.string x)) (first|assumption|exact Ef (Eo _ _)|exact Er OC OC) (first|(go_at_call 161;refine(L5 _).mono ?_;rintro e w' ⟨rfl,rfl⟩)|(go_at_call 224;refine(Nh _ hn _).mono ?_;rintro e w' ⟨rfl,b⟩;rw[HM.out]));go_wp2;go_ret;exact⟨rfl,Ep OC⟩
theorem Tg (n:Int) (x:ByteArray) (hn : -9223372036854775808<=n/\n<=9223372036854775807) (m:Int) (HM:Hid (Ay 8 (Cb n)=m)) (he:¬ m=n) (w:World) :
  Calls Tryz.prog 132 #[.agg #[.int .i64 8,.int .i64 n,.string x]] w fun e w'=>e = .returned (.bool false)/\OH w w':=by
 have a:Hid (Bc 8=true):=(by decide:Bc 8=true);have d:=Tryz.tk_int16 (.agg #[]);have c:(m == n)=false:=by simp[he]
 go_enter Tryz.func132,Tryz.ntmps132;go_wp2_with (first|(go_at_call 160;refine(Bn _ _).mono ?_;rintro e w' ⟨rfl,rfl⟩;rw[a.out]));refine wp_region_held_drew (S:=(fun w'=>Below (w.heap.size+1) (w.alloc (.cells #[.int .i64 8,.int .i64 n,.string x] 132)) w'/\w'.cell? (OK w 0)=some (.int .i64 8)/\w'.cell? (OK w 1)=some (.int .i64 n)/\w'.cell? (OK w 2)=some (.string x))) OA (Ef (Eo _ _)) fun _=>?_
 refine Tk 0 (.pointer (some (OK w 0))) ?_;try dsimp only[Act.put]
 refine Tk 1 (.int .i64 8) ?_;try dsimp only[Act.put]
 refine Tk 3 (.pointer (some (OK w 1))) ?_;try dsimp only[Act.put]
 refine Tk 4 (.int .i64 n) ?_;try dsimp only[Act.put]
 refine Tk 6 (.pointer (some (OK w 1))) ?_;try dsimp only[Act.put]
 refine Tk 7 (.int .i64 n) ?_;try dsimp only[Act.put]
 refine wpAnyH_ready (rs:=[2]) OA OB ?_;refine AllReadyH.cons rfl (fun K hK => ?_) AllReadyH.nil;go_simp;(go_at_call 161;refine(L5 _).mono ?_;rintro e w' ⟨rfl,rfl⟩);go_wp2;refine hK.out _ _ OC fun _=>?_
 clear hK;try dsimp only[Act.put]
 refine wpAnyH_ready (rs:=[5]) OA OB ?_;refine AllReadyH.cons rfl (fun K hK => ?_) AllReadyH.nil;go_simp;(go_at_call 224;refine(Nh _ hn _).mono ?_;rintro e w' ⟨rfl,b⟩;rw[HM.out]);go_wp2;refine hK.out _ _ (Er OC b) fun _=>?_
 clear hK;try dsimp only[Act.put]
 refine Tk 8 (.bool false) ?_;try dsimp only[Act.put]
 refine Tk 9 (.bool false) ?_;try dsimp only[Act.put]
 refine Ts 10 ?_;try dsimp only[Act.put]
 refine Ts 11 ?_;try dsimp only[Act.put]
 refine Ts 12 ?_;try dsimp only[Act.put]
 refine Tk 13 (.bool false) ?_;simp[Act.put];refine Tk 14 (.bool false) ?_;simp[Act.put];refine wpAnyH_done OA ?_ _;go_wp2;go_ret;exact⟨rfl,Ep OC⟩
theorem Z9 (n:Int) (x:ByteArray) (hn : -9223372036854775808<=n/\n<=9223372036854775807) (w:World) :
  Calls Tryz.prog 132 #[.agg #[.int .i64 8,.int .i64 n,.string x]] w fun e w'=>e = .returned (.bool (x.toList.isEmpty && decide (n=Ay 8 (Cb n))))/\OH w w':=by
 by_cases he:Ay 8 (Cb n)=n
 ·have:=Rb n x hn _ rfl he w;rw[he];simpa using this
 ·have a:¬ n=Ay 8 (Cb n):=fun h=>he h.symm
  have:=Tg n x hn _ rfl he w;simpa[a]using this
theorem Rc (n:Int) (x:ByteArray) (hn : -9223372036854775808<=n/\n<=9223372036854775807) (m:Int) (HM:Hid (Ay 9 (Cb n)=m)) (he:m=n) (w:World) :
  Calls Tryz.prog 132 #[.agg #[.int .i64 9,.int .i64 n,.string x]] w fun e w'=>e = .returned (.bool x.toList.isEmpty)/\OH w w':=by
 have a:Hid (Bc 9=true):=(by decide:Bc 9=true);have c:=Tryz.tk_int32 (.agg #[]);go_enter Tryz.func132,Tryz.ntmps132;go_wp2_with (first|(go_at_call 160;refine(Bn _ _).mono ?_;rintro e w' ⟨rfl,rfl⟩;rw[a.out]));go_region_held3 (fun w'=>Below (w.heap.size+1) (w.alloc (.cells #[.int .i64 9,.int .i64 n,.string x] 132)) w'/\w'.cell? (OK w 0)=some (.int .i64 9)/\w'.cell? (OK w 1)=some (.int .i64 n)/\w'.cell? (OK w 2)=some (.string x)) (first|assumption|exact Ef (Eo _ _)|exact Er OC OC) (first|(go_at_call 161;refine(L6 _).mono ?_;rintro e w' ⟨rfl,rfl⟩)|(go_at_call 228;refine(Ni _ hn _).mono ?_;rintro e w' ⟨rfl,b⟩;rw[HM.out]));go_wp2;go_ret;exact⟨rfl,Ep OC⟩
theorem Th (n:Int) (x:ByteArray) (hn : -9223372036854775808<=n/\n<=9223372036854775807) (m:Int) (HM:Hid (Ay 9 (Cb n)=m)) (he:¬ m=n) (w:World) :
  Calls Tryz.prog 132 #[.agg #[.int .i64 9,.int .i64 n,.string x]] w fun e w'=>e = .returned (.bool false)/\OH w w':=by
 have a:Hid (Bc 9=true):=(by decide:Bc 9=true);have d:=Tryz.tk_int32 (.agg #[]);have c:(m == n)=false:=by simp[he]
 go_enter Tryz.func132,Tryz.ntmps132;go_wp2_with (first|(go_at_call 160;refine(Bn _ _).mono ?_;rintro e w' ⟨rfl,rfl⟩;rw[a.out]));refine wp_region_held_drew (S:=(fun w'=>Below (w.heap.size+1) (w.alloc (.cells #[.int .i64 9,.int .i64 n,.string x] 132)) w'/\w'.cell? (OK w 0)=some (.int .i64 9)/\w'.cell? (OK w 1)=some (.int .i64 n)/\w'.cell? (OK w 2)=some (.string x))) OA (Ef (Eo _ _)) fun _=>?_
 refine Tk 0 (.pointer (some (OK w 0))) ?_;try dsimp only[Act.put]
 refine Tk 1 (.int .i64 9) ?_;try dsimp only[Act.put]
 refine Tk 3 (.pointer (some (OK w 1))) ?_;try dsimp only[Act.put]
 refine Tk 4 (.int .i64 n) ?_;try dsimp only[Act.put]
 refine Tk 6 (.pointer (some (OK w 1))) ?_;try dsimp only[Act.put]
 refine Tk 7 (.int .i64 n) ?_;try dsimp only[Act.put]
 refine wpAnyH_ready (rs:=[2]) OA OB ?_;refine AllReadyH.cons rfl (fun K hK => ?_) AllReadyH.nil;go_simp;(go_at_call 161;refine(L6 _).mono ?_;rintro e w' ⟨rfl,rfl⟩);go_wp2;refine hK.out _ _ OC fun _=>?_
 clear hK;try dsimp only[Act.put]
 refine wpAnyH_ready (rs:=[5]) OA OB ?_;refine AllReadyH.cons rfl (fun K hK => ?_) AllReadyH.nil;go_simp;(go_at_call 228;refine(Ni _ hn _).mono ?_;rintro e w' ⟨rfl,b⟩;rw[HM.out]);go_wp2;refine hK.out _ _ (Er OC b) fun _=>?_
 clear hK;try dsimp only[Act.put]
 refine Tk 8 (.bool false) ?_;try dsimp only[Act.put]
 refine Tk 9 (.bool false) ?_;try dsimp only[Act.put]
 refine Ts 10 ?_;try dsimp only[Act.put]
 refine Ts 11 ?_;try dsimp only[Act.put]
 refine Ts 12 ?_;try dsimp only[Act.put]
 refine Tk 13 (.bool false) ?_;simp[Act.put];refine Tk 14 (.bool false) ?_;simp[Act.put];refine wpAnyH_done OA ?_ _;go_wp2;go_ret;exact⟨rfl,Ep OC⟩
theorem Qaa (n:Int) (x:ByteArray) (hn : -9223372036854775808<=n/\n<=9223372036854775807) (w:World) :
  Calls Tryz.prog 132 #[.agg #[.int .i64 9,.int .i64 n,.string x]] w fun e w'=>e = .returned (.bool (x.toList.isEmpty && decide (n=Ay 9 (Cb n))))/\OH w w':=by
 by_cases he:Ay 9 (Cb n)=n
 ·have:=Rc n x hn _ rfl he w;rw[he];simpa using this
 ·have a:¬ n=Ay 9 (Cb n):=fun h=>he h.symm
  have:=Th n x hn _ rfl he w;simpa[a]using this
theorem Re (n:Int) (x:ByteArray) (hn : -9223372036854775808<=n/\n<=9223372036854775807) (m:Int) (HM:Hid (Ay 10 (Cb n)=m)) (he:m=n) (w:World) :
  Calls Tryz.prog 132 #[.agg #[.int .i64 10,.int .i64 n,.string x]] w fun e w'=>e = .returned (.bool x.toList.isEmpty)/\OH w w':=by
 have a:Hid (Bc 10=true):=(by decide:Bc 10=true);have c:=Tryz.tk_int64 (.agg #[]);go_enter Tryz.func132,Tryz.ntmps132;go_wp2_with (first|(go_at_call 160;refine(Bn _ _).mono ?_;rintro e w' ⟨rfl,rfl⟩;rw[a.out]));go_region_held3 (fun w'=>Below (w.heap.size+1) (w.alloc (.cells #[.int .i64 10,.int .i64 n,.string x] 132)) w'/\w'.cell? (OK w 0)=some (.int .i64 10)/\w'.cell? (OK w 1)=some (.int .i64 n)/\w'.cell? (OK w 2)=some (.string x)) (first|assumption|exact Ef (Eo _ _)|exact Er OC OC) (first|(go_at_call 161;refine(L7 _).mono ?_;rintro e w' ⟨rfl,rfl⟩)|(go_at_call 232;refine(Nj _ hn _).mono ?_;rintro e w' ⟨rfl,b⟩;rw[HM.out]));go_wp2;go_ret;exact⟨rfl,Ep OC⟩
theorem Ti (n:Int) (x:ByteArray) (hn : -9223372036854775808<=n/\n<=9223372036854775807) (m:Int) (HM:Hid (Ay 10 (Cb n)=m)) (he:¬ m=n) (w:World) :
  Calls Tryz.prog 132 #[.agg #[.int .i64 10,.int .i64 n,.string x]] w fun e w'=>e = .returned (.bool false)/\OH w w':=by
 have a:Hid (Bc 10=true):=(by decide:Bc 10=true);have d:=Tryz.tk_int64 (.agg #[]);have c:(m == n)=false:=by simp[he]
 go_enter Tryz.func132,Tryz.ntmps132;go_wp2_with (first|(go_at_call 160;refine(Bn _ _).mono ?_;rintro e w' ⟨rfl,rfl⟩;rw[a.out]));refine wp_region_held_drew (S:=(fun w'=>Below (w.heap.size+1) (w.alloc (.cells #[.int .i64 10,.int .i64 n,.string x] 132)) w'/\w'.cell? (OK w 0)=some (.int .i64 10)/\w'.cell? (OK w 1)=some (.int .i64 n)/\w'.cell? (OK w 2)=some (.string x))) OA (Ef (Eo _ _)) fun _=>?_
 refine Tk 0 (.pointer (some (OK w 0))) ?_;try dsimp only[Act.put]
 refine Tk 1 (.int .i64 10) ?_;try dsimp only[Act.put]
 refine Tk 3 (.pointer (some (OK w 1))) ?_;try dsimp only[Act.put]
 refine Tk 4 (.int .i64 n) ?_;try dsimp only[Act.put]
 refine Tk 6 (.pointer (some (OK w 1))) ?_;try dsimp only[Act.put]
 refine Tk 7 (.int .i64 n) ?_;try dsimp only[Act.put]
 refine wpAnyH_ready (rs:=[2]) OA OB ?_;refine AllReadyH.cons rfl (fun K hK => ?_) AllReadyH.nil;go_simp;(go_at_call 161;refine(L7 _).mono ?_;rintro e w' ⟨rfl,rfl⟩);go_wp2;refine hK.out _ _ OC fun _=>?_
 clear hK;try dsimp only[Act.put]
 refine wpAnyH_ready (rs:=[5]) OA OB ?_;refine AllReadyH.cons rfl (fun K hK => ?_) AllReadyH.nil;go_simp;(go_at_call 232;refine(Nj _ hn _).mono ?_;rintro e w' ⟨rfl,b⟩;rw[HM.out]);go_wp2;refine hK.out _ _ (Er OC b) fun _=>?_
 clear hK;try dsimp only[Act.put]
 refine Tk 8 (.bool false) ?_;try dsimp only[Act.put]
 refine Tk 9 (.bool false) ?_;try dsimp only[Act.put]
 refine Ts 10 ?_;try dsimp only[Act.put]
 refine Ts 11 ?_;try dsimp only[Act.put]
 refine Ts 12 ?_;try dsimp only[Act.put]
 refine Tk 13 (.bool false) ?_;simp[Act.put];refine Tk 14 (.bool false) ?_;simp[Act.put];refine wpAnyH_done OA ?_ _;go_wp2;go_ret;exact⟨rfl,Ep OC⟩
theorem Qab (n:Int) (x:ByteArray) (hn : -9223372036854775808<=n/\n<=9223372036854775807) (w:World) :
  Calls Tryz.prog 132 #[.agg #[.int .i64 10,.int .i64 n,.string x]] w fun e w'=>e = .returned (.bool (x.toList.isEmpty && decide (n=Ay 10 (Cb n))))/\OH w w':=by
 by_cases he:Ay 10 (Cb n)=n
 ·have:=Re n x hn _ rfl he w;rw[he];simpa using this
 ·have a:¬ n=Ay 10 (Cb n):=fun h=>he h.symm
  have:=Ti n x hn _ rfl he w;simpa[a]using this
end Go.Proofs.YtahibkjkpmdhgaaGreatDoor
