import Derived.Test.YtahibkjkpmdhgaaGreatDoorKTk
import Derived.Test.YtahibkjkpmdhgaaGreatDoorKValC
set_option maxRecDepth 100000
set_option maxHeartbeats 1000000
namespace Go.Proofs.YtahibkjkpmdhgaaGreatDoor
open Go.RowKit
theorem Pa (n:Int) (x:ByteArray) (hn : -9223372036854775808<=n/\n<=9223372036854775807) (m:Int) (HM:Hid (Aw 3 (B7 n)=m)) (he:m=n) (w:World) :
  Calls Tryz.prog 132 #[.agg #[.int .i64 3,.int .i64 n,.string x]] w fun e w'=>e = .returned (.bool x.toList.isEmpty)/\Below w.heap.size w w':=by
 have a:Hid (Be 3=true):=(by decide:Be 3=true);have c:=Tryz.tk_uint8 (.agg #[]);go_enter Tryz.func132,Tryz.ntmps132;go_wp2_with (first|(go_at_call 160;refine(Bp _ _).mono ?_;rintro e w' ⟨rfl,rfl⟩;rw[a.out]));go_region_held3 (fun w'=>Below (w.heap.size+1) (w.alloc (.cells #[.int .i64 3,.int .i64 n,.string x] 132)) w'/\w'.cell? ⟨w.heap.size,0,none⟩=some (.int .i64 3)/\w'.cell? ⟨w.heap.size,1,none⟩=some (.int .i64 n)/\w'.cell? ⟨w.heap.size,2,none⟩=some (.string x)) (first|assumption|exact Dz (Eb _ _)|exact Ed (by assumption) (by assumption)) (first|(go_at_call 161;refine(K4 _).mono ?_;rintro e w' ⟨rfl,rfl⟩)|(go_at_call 204;refine(L1 _ hn _).mono ?_;rintro e w' ⟨rfl,b⟩;rw[HM.out]));go_wp2;go_ret;exact⟨rfl,Ec (by assumption)⟩
theorem Qv (n:Int) (x:ByteArray) (hn : -9223372036854775808<=n/\n<=9223372036854775807) (m:Int) (HM:Hid (Aw 3 (B7 n)=m)) (he:¬ m=n) (w:World) :
  Calls Tryz.prog 132 #[.agg #[.int .i64 3,.int .i64 n,.string x]] w fun e w'=>e = .returned (.bool false)/\Below w.heap.size w w':=by
 have a:Hid (Be 3=true):=(by decide:Be 3=true);have d:=Tryz.tk_uint8 (.agg #[]);have c:(m == n)=false:=by simp[he]
 go_enter Tryz.func132,Tryz.ntmps132;go_wp2_with (first|(go_at_call 160;refine(Bp _ _).mono ?_;rintro e w' ⟨rfl,rfl⟩;rw[a.out]));refine wp_region_held_drew (S:=(fun w'=>Below (w.heap.size+1) (w.alloc (.cells #[.int .i64 3,.int .i64 n,.string x] 132)) w'/\w'.cell? ⟨w.heap.size,0,none⟩=some (.int .i64 3)/\w'.cell? ⟨w.heap.size,1,none⟩=some (.int .i64 n)/\w'.cell? ⟨w.heap.size,2,none⟩=some (.string x))) (by kernel_rfl) (Dz (Eb _ _)) fun _=>?_
 refine Tk 0 (.pointer (some ⟨w.heap.size,0,none⟩)) ?_;try dsimp only[Act.put]
 refine Tk 1 (.int .i64 3) ?_;try dsimp only[Act.put]
 refine Tk 3 (.pointer (some ⟨w.heap.size,1,none⟩)) ?_;try dsimp only[Act.put]
 refine Tk 4 (.int .i64 n) ?_;try dsimp only[Act.put]
 refine Tk 6 (.pointer (some ⟨w.heap.size,1,none⟩)) ?_;try dsimp only[Act.put]
 refine Tk 7 (.int .i64 n) ?_;try dsimp only[Act.put]
 refine wpAnyH_ready (rs:=[2]) (by kernel_rfl) (by simp) ?_;refine AllReadyH.cons rfl (fun K hK => ?_) AllReadyH.nil;go_simp;(go_at_call 161;refine(K4 _).mono ?_;rintro e w' ⟨rfl,rfl⟩);go_wp2;refine hK.out _ _ (by assumption) fun _=>?_
 clear hK;try dsimp only[Act.put]
 refine wpAnyH_ready (rs:=[5]) (by kernel_rfl) (by simp) ?_;refine AllReadyH.cons rfl (fun K hK => ?_) AllReadyH.nil;go_simp;(go_at_call 204;refine(L1 _ hn _).mono ?_;rintro e w' ⟨rfl,b⟩;rw[HM.out]);go_wp2;refine hK.out _ _ (Ed (by assumption) b) fun _=>?_
 clear hK;try dsimp only[Act.put]
 refine Tk 8 (.bool false) ?_;try dsimp only[Act.put]
 refine Tk 9 (.bool false) ?_;try dsimp only[Act.put]
 refine Ts 10 ?_;try dsimp only[Act.put]
 refine Ts 11 ?_;try dsimp only[Act.put]
 refine Ts 12 ?_;try dsimp only[Act.put]
 refine Tk 13 (.bool false) ?_;simp[Act.put];refine Tk 14 (.bool false) ?_;simp[Act.put];refine wpAnyH_done (by kernel_rfl) ?_ _;go_wp2;go_ret;exact⟨rfl,Ec (by assumption)⟩
theorem Xa (n:Int) (x:ByteArray) (hn : -9223372036854775808<=n/\n<=9223372036854775807) (w:World) :
  Calls Tryz.prog 132 #[.agg #[.int .i64 3,.int .i64 n,.string x]] w fun e w'=>e = .returned (.bool (x.toList.isEmpty && decide (n=Aw 3 (B7 n))))/\Below w.heap.size w w':=by
 by_cases he:Aw 3 (B7 n)=n
 ·have:=Pa n x hn _ rfl he w;rw[he];simpa using this
 ·have a:¬ n=Aw 3 (B7 n):=fun h=>he h.symm
  have:=Qv n x hn _ rfl he w;simpa[a]using this
theorem Om (n:Int) (x:ByteArray) (hn : -9223372036854775808<=n/\n<=9223372036854775807) (m:Int) (HM:Hid (Aw 4 (B7 n)=m)) (he:m=n) (w:World) :
  Calls Tryz.prog 132 #[.agg #[.int .i64 4,.int .i64 n,.string x]] w fun e w'=>e = .returned (.bool x.toList.isEmpty)/\Below w.heap.size w w':=by
 have a:Hid (Be 4=true):=(by decide:Be 4=true);have c:=Tryz.tk_uint16 (.agg #[]);go_enter Tryz.func132,Tryz.ntmps132;go_wp2_with (first|(go_at_call 160;refine(Bp _ _).mono ?_;rintro e w' ⟨rfl,rfl⟩;rw[a.out]));go_region_held3 (fun w'=>Below (w.heap.size+1) (w.alloc (.cells #[.int .i64 4,.int .i64 n,.string x] 132)) w'/\w'.cell? ⟨w.heap.size,0,none⟩=some (.int .i64 4)/\w'.cell? ⟨w.heap.size,1,none⟩=some (.int .i64 n)/\w'.cell? ⟨w.heap.size,2,none⟩=some (.string x)) (first|assumption|exact Dz (Eb _ _)|exact Ed (by assumption) (by assumption)) (first|(go_at_call 161;refine(Ke _).mono ?_;rintro e w' ⟨rfl,rfl⟩)|(go_at_call 208;refine(K6 _ hn _).mono ?_;rintro e w' ⟨rfl,b⟩;rw[HM.out]));go_wp2;go_ret;exact⟨rfl,Ec (by assumption)⟩
theorem O4 (n:Int) (x:ByteArray) (hn : -9223372036854775808<=n/\n<=9223372036854775807) (m:Int) (HM:Hid (Aw 4 (B7 n)=m)) (he:¬ m=n) (w:World) :
  Calls Tryz.prog 132 #[.agg #[.int .i64 4,.int .i64 n,.string x]] w fun e w'=>e = .returned (.bool false)/\Below w.heap.size w w':=by
 have a:Hid (Be 4=true):=(by decide:Be 4=true);have d:=Tryz.tk_uint16 (.agg #[]);have c:(m == n)=false:=by simp[he]
 go_enter Tryz.func132,Tryz.ntmps132;go_wp2_with (first|(go_at_call 160;refine(Bp _ _).mono ?_;rintro e w' ⟨rfl,rfl⟩;rw[a.out]));refine wp_region_held_drew (S:=(fun w'=>Below (w.heap.size+1) (w.alloc (.cells #[.int .i64 4,.int .i64 n,.string x] 132)) w'/\w'.cell? ⟨w.heap.size,0,none⟩=some (.int .i64 4)/\w'.cell? ⟨w.heap.size,1,none⟩=some (.int .i64 n)/\w'.cell? ⟨w.heap.size,2,none⟩=some (.string x))) (by kernel_rfl) (Dz (Eb _ _)) fun _=>?_
 refine Tk 0 (.pointer (some ⟨w.heap.size,0,none⟩)) ?_;try dsimp only[Act.put]
 refine Tk 1 (.int .i64 4) ?_;try dsimp only[Act.put]
 refine Tk 3 (.pointer (some ⟨w.heap.size,1,none⟩)) ?_;try dsimp only[Act.put]
 refine Tk 4 (.int .i64 n) ?_;try dsimp only[Act.put]
 refine Tk 6 (.pointer (some ⟨w.heap.size,1,none⟩)) ?_;try dsimp only[Act.put]
 refine Tk 7 (.int .i64 n) ?_;try dsimp only[Act.put]
 refine wpAnyH_ready (rs:=[2]) (by kernel_rfl) (by simp) ?_;refine AllReadyH.cons rfl (fun K hK => ?_) AllReadyH.nil;go_simp;(go_at_call 161;refine(Ke _).mono ?_;rintro e w' ⟨rfl,rfl⟩);go_wp2;refine hK.out _ _ (by assumption) fun _=>?_
 clear hK;try dsimp only[Act.put]
 refine wpAnyH_ready (rs:=[5]) (by kernel_rfl) (by simp) ?_;refine AllReadyH.cons rfl (fun K hK => ?_) AllReadyH.nil;go_simp;(go_at_call 208;refine(K6 _ hn _).mono ?_;rintro e w' ⟨rfl,b⟩;rw[HM.out]);go_wp2;refine hK.out _ _ (Ed (by assumption) b) fun _=>?_
 clear hK;try dsimp only[Act.put]
 refine Tk 8 (.bool false) ?_;try dsimp only[Act.put]
 refine Tk 9 (.bool false) ?_;try dsimp only[Act.put]
 refine Ts 10 ?_;try dsimp only[Act.put]
 refine Ts 11 ?_;try dsimp only[Act.put]
 refine Ts 12 ?_;try dsimp only[Act.put]
 refine Tk 13 (.bool false) ?_;simp[Act.put];refine Tk 14 (.bool false) ?_;simp[Act.put];refine wpAnyH_done (by kernel_rfl) ?_ _;go_wp2;go_ret;exact⟨rfl,Ec (by assumption)⟩
theorem Uq (n:Int) (x:ByteArray) (hn : -9223372036854775808<=n/\n<=9223372036854775807) (w:World) :
  Calls Tryz.prog 132 #[.agg #[.int .i64 4,.int .i64 n,.string x]] w fun e w'=>e = .returned (.bool (x.toList.isEmpty && decide (n=Aw 4 (B7 n))))/\Below w.heap.size w w':=by
 by_cases he:Aw 4 (B7 n)=n
 ·have:=Om n x hn _ rfl he w;rw[he];simpa using this
 ·have a:¬ n=Aw 4 (B7 n):=fun h=>he h.symm
  have:=O4 n x hn _ rfl he w;simpa[a]using this
theorem On (n:Int) (x:ByteArray) (hn : -9223372036854775808<=n/\n<=9223372036854775807) (m:Int) (HM:Hid (Aw 5 (B7 n)=m)) (he:m=n) (w:World) :
  Calls Tryz.prog 132 #[.agg #[.int .i64 5,.int .i64 n,.string x]] w fun e w'=>e = .returned (.bool x.toList.isEmpty)/\Below w.heap.size w w':=by
 have a:Hid (Be 5=true):=(by decide:Be 5=true);have c:=Tryz.tk_uint32 (.agg #[]);go_enter Tryz.func132,Tryz.ntmps132;go_wp2_with (first|(go_at_call 160;refine(Bp _ _).mono ?_;rintro e w' ⟨rfl,rfl⟩;rw[a.out]));go_region_held3 (fun w'=>Below (w.heap.size+1) (w.alloc (.cells #[.int .i64 5,.int .i64 n,.string x] 132)) w'/\w'.cell? ⟨w.heap.size,0,none⟩=some (.int .i64 5)/\w'.cell? ⟨w.heap.size,1,none⟩=some (.int .i64 n)/\w'.cell? ⟨w.heap.size,2,none⟩=some (.string x)) (first|assumption|exact Dz (Eb _ _)|exact Ed (by assumption) (by assumption)) (first|(go_at_call 161;refine(Kf _).mono ?_;rintro e w' ⟨rfl,rfl⟩)|(go_at_call 212;refine(K7 _ hn _).mono ?_;rintro e w' ⟨rfl,b⟩;rw[HM.out]));go_wp2;go_ret;exact⟨rfl,Ec (by assumption)⟩
theorem O5 (n:Int) (x:ByteArray) (hn : -9223372036854775808<=n/\n<=9223372036854775807) (m:Int) (HM:Hid (Aw 5 (B7 n)=m)) (he:¬ m=n) (w:World) :
  Calls Tryz.prog 132 #[.agg #[.int .i64 5,.int .i64 n,.string x]] w fun e w'=>e = .returned (.bool false)/\Below w.heap.size w w':=by
 have a:Hid (Be 5=true):=(by decide:Be 5=true);have d:=Tryz.tk_uint32 (.agg #[]);have c:(m == n)=false:=by simp[he]
 go_enter Tryz.func132,Tryz.ntmps132;go_wp2_with (first|(go_at_call 160;refine(Bp _ _).mono ?_;rintro e w' ⟨rfl,rfl⟩;rw[a.out]));refine wp_region_held_drew (S:=(fun w'=>Below (w.heap.size+1) (w.alloc (.cells #[.int .i64 5,.int .i64 n,.string x] 132)) w'/\w'.cell? ⟨w.heap.size,0,none⟩=some (.int .i64 5)/\w'.cell? ⟨w.heap.size,1,none⟩=some (.int .i64 n)/\w'.cell? ⟨w.heap.size,2,none⟩=some (.string x))) (by kernel_rfl) (Dz (Eb _ _)) fun _=>?_
 refine Tk 0 (.pointer (some ⟨w.heap.size,0,none⟩)) ?_;try dsimp only[Act.put]
 refine Tk 1 (.int .i64 5) ?_;try dsimp only[Act.put]
 refine Tk 3 (.pointer (some ⟨w.heap.size,1,none⟩)) ?_;try dsimp only[Act.put]
 refine Tk 4 (.int .i64 n) ?_;try dsimp only[Act.put]
 refine Tk 6 (.pointer (some ⟨w.heap.size,1,none⟩)) ?_;try dsimp only[Act.put]
 refine Tk 7 (.int .i64 n) ?_;try dsimp only[Act.put]
 refine wpAnyH_ready (rs:=[2]) (by kernel_rfl) (by simp) ?_;refine AllReadyH.cons rfl (fun K hK => ?_) AllReadyH.nil;go_simp;(go_at_call 161;refine(Kf _).mono ?_;rintro e w' ⟨rfl,rfl⟩);go_wp2;refine hK.out _ _ (by assumption) fun _=>?_
 clear hK;try dsimp only[Act.put]
 refine wpAnyH_ready (rs:=[5]) (by kernel_rfl) (by simp) ?_;refine AllReadyH.cons rfl (fun K hK => ?_) AllReadyH.nil;go_simp;(go_at_call 212;refine(K7 _ hn _).mono ?_;rintro e w' ⟨rfl,b⟩;rw[HM.out]);go_wp2;refine hK.out _ _ (Ed (by assumption) b) fun _=>?_
 clear hK;try dsimp only[Act.put]
 refine Tk 8 (.bool false) ?_;try dsimp only[Act.put]
 refine Tk 9 (.bool false) ?_;try dsimp only[Act.put]
 refine Ts 10 ?_;try dsimp only[Act.put]
 refine Ts 11 ?_;try dsimp only[Act.put]
 refine Ts 12 ?_;try dsimp only[Act.put]
 refine Tk 13 (.bool false) ?_;simp[Act.put];refine Tk 14 (.bool false) ?_;simp[Act.put];refine wpAnyH_done (by kernel_rfl) ?_ _;go_wp2;go_ret;exact⟨rfl,Ec (by assumption)⟩
theorem Ur (n:Int) (x:ByteArray) (hn : -9223372036854775808<=n/\n<=9223372036854775807) (w:World) :
  Calls Tryz.prog 132 #[.agg #[.int .i64 5,.int .i64 n,.string x]] w fun e w'=>e = .returned (.bool (x.toList.isEmpty && decide (n=Aw 5 (B7 n))))/\Below w.heap.size w w':=by
 by_cases he:Aw 5 (B7 n)=n
 ·have:=On n x hn _ rfl he w;rw[he];simpa using this
 ·have a:¬ n=Aw 5 (B7 n):=fun h=>he h.symm
  have:=O5 n x hn _ rfl he w;simpa[a]using this
theorem Oo (n:Int) (x:ByteArray) (hn : -9223372036854775808<=n/\n<=9223372036854775807) (m:Int) (HM:Hid (Aw 6 (B7 n)=m)) (he:m=n) (w:World) :
  Calls Tryz.prog 132 #[.agg #[.int .i64 6,.int .i64 n,.string x]] w fun e w'=>e = .returned (.bool x.toList.isEmpty)/\Below w.heap.size w w':=by
 have a:Hid (Be 6=true):=(by decide:Be 6=true);have c:=Tryz.tk_uint64 (.agg #[]);go_enter Tryz.func132,Tryz.ntmps132;go_wp2_with (first|(go_at_call 160;refine(Bp _ _).mono ?_;rintro e w' ⟨rfl,rfl⟩;rw[a.out]));go_region_held3 (fun w'=>Below (w.heap.size+1) (w.alloc (.cells #[.int .i64 6,.int .i64 n,.string x] 132)) w'/\w'.cell? ⟨w.heap.size,0,none⟩=some (.int .i64 6)/\w'.cell? ⟨w.heap.size,1,none⟩=some (.int .i64 n)/\w'.cell? ⟨w.heap.size,2,none⟩=some (.string x)) (first|assumption|exact Dz (Eb _ _)|exact Ed (by assumption) (by assumption)) (first|(go_at_call 161;refine(Kg _).mono ?_;rintro e w' ⟨rfl,rfl⟩)|(go_at_call 216;refine(K8 _ hn _).mono ?_;rintro e w' ⟨rfl,b⟩;rw[HM.out]));go_wp2;go_ret;exact⟨rfl,Ec (by assumption)⟩
theorem O6 (n:Int) (x:ByteArray) (hn : -9223372036854775808<=n/\n<=9223372036854775807) (m:Int) (HM:Hid (Aw 6 (B7 n)=m)) (he:¬ m=n) (w:World) :
  Calls Tryz.prog 132 #[.agg #[.int .i64 6,.int .i64 n,.string x]] w fun e w'=>e = .returned (.bool false)/\Below w.heap.size w w':=by
 have a:Hid (Be 6=true):=(by decide:Be 6=true);have d:=Tryz.tk_uint64 (.agg #[]);have c:(m == n)=false:=by simp[he]
 go_enter Tryz.func132,Tryz.ntmps132;go_wp2_with (first|(go_at_call 160;refine(Bp _ _).mono ?_;rintro e w' ⟨rfl,rfl⟩;rw[a.out]));refine wp_region_held_drew (S:=(fun w'=>Below (w.heap.size+1) (w.alloc (.cells #[.int .i64 6,.int .i64 n,.string x] 132)) w'/\w'.cell? ⟨w.heap.size,0,none⟩=some (.int .i64 6)/\w'.cell? ⟨w.heap.size,1,none⟩=some (.int .i64 n)/\w'.cell? ⟨w.heap.size,2,none⟩=some (.string x))) (by kernel_rfl) (Dz (Eb _ _)) fun _=>?_
 refine Tk 0 (.pointer (some ⟨w.heap.size,0,none⟩)) ?_;try dsimp only[Act.put]
 refine Tk 1 (.int .i64 6) ?_;try dsimp only[Act.put]
 refine Tk 3 (.pointer (some ⟨w.heap.size,1,none⟩)) ?_;try dsimp only[Act.put]
 refine Tk 4 (.int .i64 n) ?_;try dsimp only[Act.put]
 refine Tk 6 (.pointer (some ⟨w.heap.size,1,none⟩)) ?_;try dsimp only[Act.put]
 refine Tk 7 (.int .i64 n) ?_;try dsimp only[Act.put]
 refine wpAnyH_ready (rs:=[2]) (by kernel_rfl) (by simp) ?_;refine AllReadyH.cons rfl (fun K hK => ?_) AllReadyH.nil;go_simp;(go_at_call 161;refine(Kg _).mono ?_;rintro e w' ⟨rfl,rfl⟩);go_wp2;refine hK.out _ _ (by assumption) fun _=>?_
 clear hK;try dsimp only[Act.put]
 refine wpAnyH_ready (rs:=[5]) (by kernel_rfl) (by simp) ?_;refine AllReadyH.cons rfl (fun K hK => ?_) AllReadyH.nil;go_simp;(go_at_call 216;refine(K8 _ hn _).mono ?_;rintro e w' ⟨rfl,b⟩;rw[HM.out]);go_wp2;refine hK.out _ _ (Ed (by assumption) b) fun _=>?_
 clear hK;try dsimp only[Act.put]
 refine Tk 8 (.bool false) ?_;try dsimp only[Act.put]
 refine Tk 9 (.bool false) ?_;try dsimp only[Act.put]
 refine Ts 10 ?_;try dsimp only[Act.put]
 refine Ts 11 ?_;try dsimp only[Act.put]
 refine Ts 12 ?_;try dsimp only[Act.put]
 refine Tk 13 (.bool false) ?_;simp[Act.put];refine Tk 14 (.bool false) ?_;simp[Act.put];refine wpAnyH_done (by kernel_rfl) ?_ _;go_wp2;go_ret;exact⟨rfl,Ec (by assumption)⟩
theorem Us (n:Int) (x:ByteArray) (hn : -9223372036854775808<=n/\n<=9223372036854775807) (w:World) :
  Calls Tryz.prog 132 #[.agg #[.int .i64 6,.int .i64 n,.string x]] w fun e w'=>e = .returned (.bool (x.toList.isEmpty && decide (n=Aw 6 (B7 n))))/\Below w.heap.size w w':=by
 by_cases he:Aw 6 (B7 n)=n
 ·have:=Oo n x hn _ rfl he w;rw[he];simpa using this
 ·have a:¬ n=Aw 6 (B7 n):=fun h=>he h.symm
  have:=O6 n x hn _ rfl he w;simpa[a]using this
theorem Qw (n:Int) (x:ByteArray) (hn : -9223372036854775808<=n/\n<=9223372036854775807) (m:Int) (HM:Hid (Aw 7 (B7 n)=m)) (he:m=n) (w:World) :
  Calls Tryz.prog 132 #[.agg #[.int .i64 7,.int .i64 n,.string x]] w fun e w'=>e = .returned (.bool x.toList.isEmpty)/\Below w.heap.size w w':=by
 have a:Hid (Be 7=true):=(by decide:Be 7=true);have c:=Tryz.tk_int8 (.agg #[]);go_enter Tryz.func132,Tryz.ntmps132;go_wp2_with (first|(go_at_call 160;refine(Bp _ _).mono ?_;rintro e w' ⟨rfl,rfl⟩;rw[a.out]));go_region_held3 (fun w'=>Below (w.heap.size+1) (w.alloc (.cells #[.int .i64 7,.int .i64 n,.string x] 132)) w'/\w'.cell? ⟨w.heap.size,0,none⟩=some (.int .i64 7)/\w'.cell? ⟨w.heap.size,1,none⟩=some (.int .i64 n)/\w'.cell? ⟨w.heap.size,2,none⟩=some (.string x)) (first|assumption|exact Dz (Eb _ _)|exact Ed (by assumption) (by assumption)) (first|(go_at_call 161;refine(Lw _).mono ?_;rintro e w' ⟨rfl,rfl⟩)|(go_at_call 220;refine(Mo _ hn _).mono ?_;rintro e w' ⟨rfl,b⟩;rw[HM.out]));go_wp2;go_ret;exact⟨rfl,Ec (by assumption)⟩
theorem Sg (n:Int) (x:ByteArray) (hn : -9223372036854775808<=n/\n<=9223372036854775807) (m:Int) (HM:Hid (Aw 7 (B7 n)=m)) (he:¬ m=n) (w:World) :
  Calls Tryz.prog 132 #[.agg #[.int .i64 7,.int .i64 n,.string x]] w fun e w'=>e = .returned (.bool false)/\Below w.heap.size w w':=by
 have a:Hid (Be 7=true):=(by decide:Be 7=true);have d:=Tryz.tk_int8 (.agg #[]);have c:(m == n)=false:=by simp[he]
 go_enter Tryz.func132,Tryz.ntmps132;go_wp2_with (first|(go_at_call 160;refine(Bp _ _).mono ?_;rintro e w' ⟨rfl,rfl⟩;rw[a.out]));refine wp_region_held_drew (S:=(fun w'=>Below (w.heap.size+1) (w.alloc (.cells #[.int .i64 7,.int .i64 n,.string x] 132)) w'/\w'.cell? ⟨w.heap.size,0,none⟩=some (.int .i64 7)/\w'.cell? ⟨w.heap.size,1,none⟩=some (.int .i64 n)/\w'.cell? ⟨w.heap.size,2,none⟩=some (.string x))) (by kernel_rfl) (Dz (Eb _ _)) fun _=>?_
 refine Tk 0 (.pointer (some ⟨w.heap.size,0,none⟩)) ?_;try dsimp only[Act.put]
 refine Tk 1 (.int .i64 7) ?_;try dsimp only[Act.put]
 refine Tk 3 (.pointer (some ⟨w.heap.size,1,none⟩)) ?_;try dsimp only[Act.put]
 refine Tk 4 (.int .i64 n) ?_;try dsimp only[Act.put]
 refine Tk 6 (.pointer (some ⟨w.heap.size,1,none⟩)) ?_;try dsimp only[Act.put]
 refine Tk 7 (.int .i64 n) ?_;try dsimp only[Act.put]
 refine wpAnyH_ready (rs:=[2]) (by kernel_rfl) (by simp) ?_;refine AllReadyH.cons rfl (fun K hK => ?_) AllReadyH.nil;go_simp;(go_at_call 161;refine(Lw _).mono ?_;rintro e w' ⟨rfl,rfl⟩);go_wp2;refine hK.out _ _ (by assumption) fun _=>?_
 clear hK;try dsimp only[Act.put]
 refine wpAnyH_ready (rs:=[5]) (by kernel_rfl) (by simp) ?_;refine AllReadyH.cons rfl (fun K hK => ?_) AllReadyH.nil;go_simp;(go_at_call 220;refine(Mo _ hn _).mono ?_;rintro e w' ⟨rfl,b⟩;rw[HM.out]);go_wp2;refine hK.out _ _ (Ed (by assumption) b) fun _=>?_
 clear hK;try dsimp only[Act.put]
 refine Tk 8 (.bool false) ?_;try dsimp only[Act.put]
 refine Tk 9 (.bool false) ?_;try dsimp only[Act.put]
 refine Ts 10 ?_;try dsimp only[Act.put]
 refine Ts 11 ?_;try dsimp only[Act.put]
 refine Ts 12 ?_;try dsimp only[Act.put]
 refine Tk 13 (.bool false) ?_;simp[Act.put];refine Tk 14 (.bool false) ?_;simp[Act.put];refine wpAnyH_done (by kernel_rfl) ?_ _;go_wp2;go_ret;exact⟨rfl,Ec (by assumption)⟩
theorem Zj (n:Int) (x:ByteArray) (hn : -9223372036854775808<=n/\n<=9223372036854775807) (w:World) :
  Calls Tryz.prog 132 #[.agg #[.int .i64 7,.int .i64 n,.string x]] w fun e w'=>e = .returned (.bool (x.toList.isEmpty && decide (n=Aw 7 (B7 n))))/\Below w.heap.size w w':=by
 by_cases he:Aw 7 (B7 n)=n
 ·have:=Qw n x hn _ rfl he w;rw[he];simpa using this
 ·have a:¬ n=Aw 7 (B7 n):=fun h=>he h.symm
  have:=Sg n x hn _ rfl he w;simpa[a]using this
theorem O7 (n:Int) (x:ByteArray) (hn : -9223372036854775808<=n/\n<=9223372036854775807) (m:Int) (HM:Hid (Aw 8 (B7 n)=m)) (he:m=n) (w:World) :
  Calls Tryz.prog 132 #[.agg #[.int .i64 8,.int .i64 n,.string x]] w fun e w'=>e = .returned (.bool x.toList.isEmpty)/\Below w.heap.size w w':=by
 have a:Hid (Be 8=true):=(by decide:Be 8=true);have c:=Tryz.tk_int16 (.agg #[]);go_enter Tryz.func132,Tryz.ntmps132;go_wp2_with (first|(go_at_call 160;refine(Bp _ _).mono ?_;rintro e w' ⟨rfl,rfl⟩;rw[a.out]));go_region_held3 (fun w'=>Below (w.heap.size+1) (w.alloc (.cells #[.int .i64 8,.int .i64 n,.string x] 132)) w'/\w'.cell? ⟨w.heap.size,0,none⟩=some (.int .i64 8)/\w'.cell? ⟨w.heap.size,1,none⟩=some (.int .i64 n)/\w'.cell? ⟨w.heap.size,2,none⟩=some (.string x)) (first|assumption|exact Dz (Eb _ _)|exact Ed (by assumption) (by assumption)) (first|(go_at_call 161;refine(Kx _).mono ?_;rintro e w' ⟨rfl,rfl⟩)|(go_at_call 224;refine(Ly _ hn _).mono ?_;rintro e w' ⟨rfl,b⟩;rw[HM.out]));go_wp2;go_ret;exact⟨rfl,Ec (by assumption)⟩
theorem Qs (n:Int) (x:ByteArray) (hn : -9223372036854775808<=n/\n<=9223372036854775807) (m:Int) (HM:Hid (Aw 8 (B7 n)=m)) (he:¬ m=n) (w:World) :
  Calls Tryz.prog 132 #[.agg #[.int .i64 8,.int .i64 n,.string x]] w fun e w'=>e = .returned (.bool false)/\Below w.heap.size w w':=by
 have a:Hid (Be 8=true):=(by decide:Be 8=true);have d:=Tryz.tk_int16 (.agg #[]);have c:(m == n)=false:=by simp[he]
 go_enter Tryz.func132,Tryz.ntmps132;go_wp2_with (first|(go_at_call 160;refine(Bp _ _).mono ?_;rintro e w' ⟨rfl,rfl⟩;rw[a.out]));refine wp_region_held_drew (S:=(fun w'=>Below (w.heap.size+1) (w.alloc (.cells #[.int .i64 8,.int .i64 n,.string x] 132)) w'/\w'.cell? ⟨w.heap.size,0,none⟩=some (.int .i64 8)/\w'.cell? ⟨w.heap.size,1,none⟩=some (.int .i64 n)/\w'.cell? ⟨w.heap.size,2,none⟩=some (.string x))) (by kernel_rfl) (Dz (Eb _ _)) fun _=>?_
 refine Tk 0 (.pointer (some ⟨w.heap.size,0,none⟩)) ?_;try dsimp only[Act.put]
 refine Tk 1 (.int .i64 8) ?_;try dsimp only[Act.put]
 refine Tk 3 (.pointer (some ⟨w.heap.size,1,none⟩)) ?_;try dsimp only[Act.put]
 refine Tk 4 (.int .i64 n) ?_;try dsimp only[Act.put]
 refine Tk 6 (.pointer (some ⟨w.heap.size,1,none⟩)) ?_;try dsimp only[Act.put]
 refine Tk 7 (.int .i64 n) ?_;try dsimp only[Act.put]
 refine wpAnyH_ready (rs:=[2]) (by kernel_rfl) (by simp) ?_;refine AllReadyH.cons rfl (fun K hK => ?_) AllReadyH.nil;go_simp;(go_at_call 161;refine(Kx _).mono ?_;rintro e w' ⟨rfl,rfl⟩);go_wp2;refine hK.out _ _ (by assumption) fun _=>?_
 clear hK;try dsimp only[Act.put]
 refine wpAnyH_ready (rs:=[5]) (by kernel_rfl) (by simp) ?_;refine AllReadyH.cons rfl (fun K hK => ?_) AllReadyH.nil;go_simp;(go_at_call 224;refine(Ly _ hn _).mono ?_;rintro e w' ⟨rfl,b⟩;rw[HM.out]);go_wp2;refine hK.out _ _ (Ed (by assumption) b) fun _=>?_
 clear hK;try dsimp only[Act.put]
 refine Tk 8 (.bool false) ?_;try dsimp only[Act.put]
 refine Tk 9 (.bool false) ?_;try dsimp only[Act.put]
 refine Ts 10 ?_;try dsimp only[Act.put]
 refine Ts 11 ?_;try dsimp only[Act.put]
 refine Ts 12 ?_;try dsimp only[Act.put]
 refine Tk 13 (.bool false) ?_;simp[Act.put];refine Tk 14 (.bool false) ?_;simp[Act.put];refine wpAnyH_done (by kernel_rfl) ?_ _;go_wp2;go_ret;exact⟨rfl,Ec (by assumption)⟩
theorem W7 (n:Int) (x:ByteArray) (hn : -9223372036854775808<=n/\n<=9223372036854775807) (w:World) :
  Calls Tryz.prog 132 #[.agg #[.int .i64 8,.int .i64 n,.string x]] w fun e w'=>e = .returned (.bool (x.toList.isEmpty && decide (n=Aw 8 (B7 n))))/\Below w.heap.size w w':=by
 by_cases he:Aw 8 (B7 n)=n
 ·have:=O7 n x hn _ rfl he w;rw[he];simpa using this
 ·have a:¬ n=Aw 8 (B7 n):=fun h=>he h.symm
  have:=Qs n x hn _ rfl he w;simpa[a]using this
theorem O8 (n:Int) (x:ByteArray) (hn : -9223372036854775808<=n/\n<=9223372036854775807) (m:Int) (HM:Hid (Aw 9 (B7 n)=m)) (he:m=n) (w:World) :
  Calls Tryz.prog 132 #[.agg #[.int .i64 9,.int .i64 n,.string x]] w fun e w'=>e = .returned (.bool x.toList.isEmpty)/\Below w.heap.size w w':=by
 have a:Hid (Be 9=true):=(by decide:Be 9=true);have c:=Tryz.tk_int32 (.agg #[]);go_enter Tryz.func132,Tryz.ntmps132;go_wp2_with (first|(go_at_call 160;refine(Bp _ _).mono ?_;rintro e w' ⟨rfl,rfl⟩;rw[a.out]));go_region_held3 (fun w'=>Below (w.heap.size+1) (w.alloc (.cells #[.int .i64 9,.int .i64 n,.string x] 132)) w'/\w'.cell? ⟨w.heap.size,0,none⟩=some (.int .i64 9)/\w'.cell? ⟨w.heap.size,1,none⟩=some (.int .i64 n)/\w'.cell? ⟨w.heap.size,2,none⟩=some (.string x)) (first|assumption|exact Dz (Eb _ _)|exact Ed (by assumption) (by assumption)) (first|(go_at_call 161;refine(Ky _).mono ?_;rintro e w' ⟨rfl,rfl⟩)|(go_at_call 228;refine(Lz _ hn _).mono ?_;rintro e w' ⟨rfl,b⟩;rw[HM.out]));go_wp2;go_ret;exact⟨rfl,Ec (by assumption)⟩
theorem Qt (n:Int) (x:ByteArray) (hn : -9223372036854775808<=n/\n<=9223372036854775807) (m:Int) (HM:Hid (Aw 9 (B7 n)=m)) (he:¬ m=n) (w:World) :
  Calls Tryz.prog 132 #[.agg #[.int .i64 9,.int .i64 n,.string x]] w fun e w'=>e = .returned (.bool false)/\Below w.heap.size w w':=by
 have a:Hid (Be 9=true):=(by decide:Be 9=true);have d:=Tryz.tk_int32 (.agg #[]);have c:(m == n)=false:=by simp[he]
 go_enter Tryz.func132,Tryz.ntmps132;go_wp2_with (first|(go_at_call 160;refine(Bp _ _).mono ?_;rintro e w' ⟨rfl,rfl⟩;rw[a.out]));refine wp_region_held_drew (S:=(fun w'=>Below (w.heap.size+1) (w.alloc (.cells #[.int .i64 9,.int .i64 n,.string x] 132)) w'/\w'.cell? ⟨w.heap.size,0,none⟩=some (.int .i64 9)/\w'.cell? ⟨w.heap.size,1,none⟩=some (.int .i64 n)/\w'.cell? ⟨w.heap.size,2,none⟩=some (.string x))) (by kernel_rfl) (Dz (Eb _ _)) fun _=>?_
 refine Tk 0 (.pointer (some ⟨w.heap.size,0,none⟩)) ?_;try dsimp only[Act.put]
 refine Tk 1 (.int .i64 9) ?_;try dsimp only[Act.put]
 refine Tk 3 (.pointer (some ⟨w.heap.size,1,none⟩)) ?_;try dsimp only[Act.put]
 refine Tk 4 (.int .i64 n) ?_;try dsimp only[Act.put]
 refine Tk 6 (.pointer (some ⟨w.heap.size,1,none⟩)) ?_;try dsimp only[Act.put]
 refine Tk 7 (.int .i64 n) ?_;try dsimp only[Act.put]
 refine wpAnyH_ready (rs:=[2]) (by kernel_rfl) (by simp) ?_;refine AllReadyH.cons rfl (fun K hK => ?_) AllReadyH.nil;go_simp;(go_at_call 161;refine(Ky _).mono ?_;rintro e w' ⟨rfl,rfl⟩);go_wp2;refine hK.out _ _ (by assumption) fun _=>?_
 clear hK;try dsimp only[Act.put]
 refine wpAnyH_ready (rs:=[5]) (by kernel_rfl) (by simp) ?_;refine AllReadyH.cons rfl (fun K hK => ?_) AllReadyH.nil;go_simp;(go_at_call 228;refine(Lz _ hn _).mono ?_;rintro e w' ⟨rfl,b⟩;rw[HM.out]);go_wp2;refine hK.out _ _ (Ed (by assumption) b) fun _=>?_
 clear hK;try dsimp only[Act.put]
 refine Tk 8 (.bool false) ?_;try dsimp only[Act.put]
 refine Tk 9 (.bool false) ?_;try dsimp only[Act.put]
 refine Ts 10 ?_;try dsimp only[Act.put]
 refine Ts 11 ?_;try dsimp only[Act.put]
 refine Ts 12 ?_;try dsimp only[Act.put]
 refine Tk 13 (.bool false) ?_;simp[Act.put];refine Tk 14 (.bool false) ?_;simp[Act.put];refine wpAnyH_done (by kernel_rfl) ?_ _;go_wp2;go_ret;exact⟨rfl,Ec (by assumption)⟩
theorem W8 (n:Int) (x:ByteArray) (hn : -9223372036854775808<=n/\n<=9223372036854775807) (w:World) :
  Calls Tryz.prog 132 #[.agg #[.int .i64 9,.int .i64 n,.string x]] w fun e w'=>e = .returned (.bool (x.toList.isEmpty && decide (n=Aw 9 (B7 n))))/\Below w.heap.size w w':=by
 by_cases he:Aw 9 (B7 n)=n
 ·have:=O8 n x hn _ rfl he w;rw[he];simpa using this
 ·have a:¬ n=Aw 9 (B7 n):=fun h=>he h.symm
  have:=Qt n x hn _ rfl he w;simpa[a]using this
theorem O9 (n:Int) (x:ByteArray) (hn : -9223372036854775808<=n/\n<=9223372036854775807) (m:Int) (HM:Hid (Aw 10 (B7 n)=m)) (he:m=n) (w:World) :
  Calls Tryz.prog 132 #[.agg #[.int .i64 10,.int .i64 n,.string x]] w fun e w'=>e = .returned (.bool x.toList.isEmpty)/\Below w.heap.size w w':=by
 have a:Hid (Be 10=true):=(by decide:Be 10=true);have c:=Tryz.tk_int64 (.agg #[]);go_enter Tryz.func132,Tryz.ntmps132;go_wp2_with (first|(go_at_call 160;refine(Bp _ _).mono ?_;rintro e w' ⟨rfl,rfl⟩;rw[a.out]));go_region_held3 (fun w'=>Below (w.heap.size+1) (w.alloc (.cells #[.int .i64 10,.int .i64 n,.string x] 132)) w'/\w'.cell? ⟨w.heap.size,0,none⟩=some (.int .i64 10)/\w'.cell? ⟨w.heap.size,1,none⟩=some (.int .i64 n)/\w'.cell? ⟨w.heap.size,2,none⟩=some (.string x)) (first|assumption|exact Dz (Eb _ _)|exact Ed (by assumption) (by assumption)) (first|(go_at_call 161;refine(Kz _).mono ?_;rintro e w' ⟨rfl,rfl⟩)|(go_at_call 232;refine(L0 _ hn _).mono ?_;rintro e w' ⟨rfl,b⟩;rw[HM.out]));go_wp2;go_ret;exact⟨rfl,Ec (by assumption)⟩
theorem Qu (n:Int) (x:ByteArray) (hn : -9223372036854775808<=n/\n<=9223372036854775807) (m:Int) (HM:Hid (Aw 10 (B7 n)=m)) (he:¬ m=n) (w:World) :
  Calls Tryz.prog 132 #[.agg #[.int .i64 10,.int .i64 n,.string x]] w fun e w'=>e = .returned (.bool false)/\Below w.heap.size w w':=by
 have a:Hid (Be 10=true):=(by decide:Be 10=true);have d:=Tryz.tk_int64 (.agg #[]);have c:(m == n)=false:=by simp[he]
 go_enter Tryz.func132,Tryz.ntmps132;go_wp2_with (first|(go_at_call 160;refine(Bp _ _).mono ?_;rintro e w' ⟨rfl,rfl⟩;rw[a.out]));refine wp_region_held_drew (S:=(fun w'=>Below (w.heap.size+1) (w.alloc (.cells #[.int .i64 10,.int .i64 n,.string x] 132)) w'/\w'.cell? ⟨w.heap.size,0,none⟩=some (.int .i64 10)/\w'.cell? ⟨w.heap.size,1,none⟩=some (.int .i64 n)/\w'.cell? ⟨w.heap.size,2,none⟩=some (.string x))) (by kernel_rfl) (Dz (Eb _ _)) fun _=>?_
 refine Tk 0 (.pointer (some ⟨w.heap.size,0,none⟩)) ?_;try dsimp only[Act.put]
 refine Tk 1 (.int .i64 10) ?_;try dsimp only[Act.put]
 refine Tk 3 (.pointer (some ⟨w.heap.size,1,none⟩)) ?_;try dsimp only[Act.put]
 refine Tk 4 (.int .i64 n) ?_;try dsimp only[Act.put]
 refine Tk 6 (.pointer (some ⟨w.heap.size,1,none⟩)) ?_;try dsimp only[Act.put]
 refine Tk 7 (.int .i64 n) ?_;try dsimp only[Act.put]
 refine wpAnyH_ready (rs:=[2]) (by kernel_rfl) (by simp) ?_;refine AllReadyH.cons rfl (fun K hK => ?_) AllReadyH.nil;go_simp;(go_at_call 161;refine(Kz _).mono ?_;rintro e w' ⟨rfl,rfl⟩);go_wp2;refine hK.out _ _ (by assumption) fun _=>?_
 clear hK;try dsimp only[Act.put]
 refine wpAnyH_ready (rs:=[5]) (by kernel_rfl) (by simp) ?_;refine AllReadyH.cons rfl (fun K hK => ?_) AllReadyH.nil;go_simp;(go_at_call 232;refine(L0 _ hn _).mono ?_;rintro e w' ⟨rfl,b⟩;rw[HM.out]);go_wp2;refine hK.out _ _ (Ed (by assumption) b) fun _=>?_
 clear hK;try dsimp only[Act.put]
 refine Tk 8 (.bool false) ?_;try dsimp only[Act.put]
 refine Tk 9 (.bool false) ?_;try dsimp only[Act.put]
 refine Ts 10 ?_;try dsimp only[Act.put]
 refine Ts 11 ?_;try dsimp only[Act.put]
 refine Ts 12 ?_;try dsimp only[Act.put]
 refine Tk 13 (.bool false) ?_;simp[Act.put];refine Tk 14 (.bool false) ?_;simp[Act.put];refine wpAnyH_done (by kernel_rfl) ?_ _;go_wp2;go_ret;exact⟨rfl,Ec (by assumption)⟩
theorem W9 (n:Int) (x:ByteArray) (hn : -9223372036854775808<=n/\n<=9223372036854775807) (w:World) :
  Calls Tryz.prog 132 #[.agg #[.int .i64 10,.int .i64 n,.string x]] w fun e w'=>e = .returned (.bool (x.toList.isEmpty && decide (n=Aw 10 (B7 n))))/\Below w.heap.size w w':=by
 by_cases he:Aw 10 (B7 n)=n
 ·have:=O9 n x hn _ rfl he w;rw[he];simpa using this
 ·have a:¬ n=Aw 10 (B7 n):=fun h=>he h.symm
  have:=Qu n x hn _ rfl he w;simpa[a]using this
end Go.Proofs.YtahibkjkpmdhgaaGreatDoor
