import Derived.Test.YtfoimmnlojjfbaaGreatDoorKTk
import Derived.Test.YtfoimmnlojjfbaaGreatDoorKGenR
import Derived.Deep.RegionHeld3
import Derived.Lib.UnsafeStr
import Derived.Laws.IdiomStrings
import Derived.Laws.BytesArg
import Derived.Lib.ItoaNum
import Derived.Lib.Index
import Derived.Lib.ItoaMem
import Derived.OwnWalk
import Derived.MapKept
set_option maxRecDepth 100000
set_option maxHeartbeats 2000000
namespace Go.Proofs.YtfoimmnlojjfbaaGreatDoor
open Go.RowKit
theorem Dc.wrap_u (x:Int):IntKind.u64.wrap x=x % 18446744073709551616:=by rfl
theorem Dc.new_at (w:World) (o:Obj):(w.alloc o).heap[w.heap.size]? = some o:=(MapKept.heap_alloc w o).1
theorem Dc.own_next {W W':World} {B e size n:Nat} {v:Value} {xs:List Value} (h:W.ownsRow B e size v n xs) (hb:Below W.heap.size W W'):W'.ownsRow B e size v n xs:=by
 refine ⟨h.1, ?_⟩
 rcases h.2 with hn | ⟨g,cap,cur,hv,hg,hgg,rest⟩
 ·exact .inl hn
 ·exact .inr ⟨g,cap,cur,hv,hg,by rw [hb.block g (Array.getElem?_eq_some_iff.1 hgg).1];exact hgg,rest⟩
theorem Dc.conv_own {P:Program} {w:World} {src dst e:TypeId} (hs:P.underlying src=some (.slice e)) (he:P.underlying e=some (.int .u8)) (hd:P.underlying dst=some .string) {B:Nat} {v:Value} {acc:List UInt8}
  (h:w.ownsRow B e 1 v acc.length (Lib.byteCells acc)):(convert src dst v).run P w = .ok (.string ⟨acc.toArray⟩) w:=by
 have hcells:=fun g=>h.cells (g:=g)
 obtain ⟨h1,h2⟩:=h
 rcases h2 with ⟨rfl,h0⟩ | ⟨g,cap,cur,rfl,hg,hh,hn,hcap,hsz,htake⟩
 ·have:acc=[]:=List.eq_nil_of_length_eq_zero h0
  subst this
  exact run_convert_bytes_nil (P:=P) (w:=w) src e hs he 0 0 dst hd
 ·refine run_convert_bytes_back w src dst e ⟨g,0,none⟩ cap acc hs he hd ?_
  intro j hj
  exact hcells g rfl j _ (by simp [Lib.byteCells,hj])
theorem Dc.ofNat_toNat (x:Int) (h0:0≤x) (h1:x≤255):((UInt8.ofNat x.toNat).toNat:Int)=x:=by
 simp;omega
theorem Dc.own_one (w:World) (c:Int) (h0:0≤c) (h1:c≤255):(w.alloc (.cells #[.int .u8 c] 5)).ownsRow w.heap.size 5 1 (.slice (some ⟨w.heap.size,0,none⟩) 1 1) 1 (Lib.byteCells [UInt8.ofNat c.toNat]):=by
 have h:(w.alloc (.cells #[.int .u8 c] 5)).ownsRow w.heap.size 5 1 (.slice (some ⟨w.heap.size,0,none⟩) 1 1) 1 [.int .u8 c]:=⟨rfl,.inr ⟨w.heap.size,1,#[.int .u8 c],rfl,Nat.le_refl _,Dc.new_at w _,Nat.le_refl _,by decide,rfl,rfl⟩⟩
 simp only [Lib.byteCells,List.map_cons,List.map_nil,Dc.ofNat_toNat c h0 h1];exact h
theorem Dc.conv_of {w:World} {B:Nat} {v:Value} {acc:List UInt8} (h:w.ownsRow B 5 1 v acc.length (Lib.byteCells acc)):(convert 22 9 v).run Tryz.prog w = .ok (.string ⟨acc.toArray⟩) w :=
 Dc.conv_own Tryz.underlying22 Tryz.underlying5 Tryz.underlying9 h
theorem Dc.conv_one (w:World) (c:Int) (h0:0≤c) (h1:c≤255):(convert 22 9 (.slice (some ⟨w.heap.size,0,none⟩) 1 1)).run Tryz.prog (w.alloc (.cells #[.int .u8 c] 5)) = .ok (.string ⟨#[UInt8.ofNat c.toNat]⟩) (w.alloc (.cells #[.int .u8 c] 5)) :=
 Dc.conv_of (acc:=[UInt8.ofNat c.toNat]) (Dc.own_one w c h0 h1)
theorem Dc.conv_on {w w':World} (c:Int) (h0:0≤c) (h1:c≤255) (hb:Below (w.alloc (.cells #[.int .u8 c] 5)).heap.size (w.alloc (.cells #[.int .u8 c] 5)) w'):(convert 22 9 (.slice (some ⟨w.heap.size,0,none⟩) 1 1)).run Tryz.prog w' = .ok (.string ⟨#[UInt8.ofNat c.toNat]⟩) w' :=
 Dc.conv_of (acc:=[UInt8.ofNat c.toNat]) (Dc.own_next (Dc.own_one w c h0 h1) hb)
theorem Dc.l1Decimal_one (n:Nat) (w:World) (h:n < 10) :
  Calls Tryz.prog 22 #[.int .u64 (n:Int)] w fun e w'=>e = .returned (.string ⟨(Lib.decDigits n).toArray⟩)∧Below w.heap.size w w':=by
 rw [Lib.decDigits_one h]
 have hcv:=Dc.conv_one w (48+(n:Int)) (by omega) (by omega)
 rw [show (48+(n:Int)).toNat=48+n by omega] at hcv
 generalize UInt8.ofNat (48+n)=b at *
 go_enter Tryz.func22,Tryz.ntmps22
 go_wp2
 go_ret
 exact ⟨rfl,(Below.refl _ w).alloc (Nat.le_refl _) _⟩
theorem Dc.keepB {w w0 w1:World} (h:Below w.heap.size w w0) (hb:Below w0.heap.size w0 w1):Below w.heap.size w w1:=h.trans (hb.mono h.size)
theorem Dc.l1Decimal_step (n:Nat) (w:World) (h:¬ n < 10) (hn:n < 18446744073709551616) (ds:ByteArray) (hds:ds.size≤30) (b:UInt8) (HB:Hid (UInt8.ofNat (48+n % 10)=b))
  (ih:Hid (∀ w:World,Calls Tryz.prog 22 #[.int .u64 ((n:Int) / 10)] w fun e w'=>e = .returned (.string ds)∧Below w.heap.size w w')) :
  Calls Tryz.prog 22 #[.int .u64 (n:Int)] w fun e w'=>e = .returned (.string (ds++⟨#[UInt8.ofNat (48+n % 10)]⟩))∧Below w.heap.size w w':=by
 have hc0:0≤48+(n:Int) % 10:=by omega
 have hc1:48+(n:Int) % 10≤255:=by omega
 have e1:(48+(n:Int) % 10).toNat=48+n % 10:=by omega
 go_enter Tryz.func22,Tryz.ntmps22
 have hds2:ds.size≤9223372036854775806:=by omega
 rw [HB.out]
 have q1:IntKind.u64.wrap ((n:Int) / 10)=(n:Int) / 10:=by rw [Dc.wrap_u];omega
 have q2:(n:Int).tmod 10=(n:Int) % 10:=Int.tmod_eq_emod_of_nonneg (by omega)
 have q3:IntKind.u64.wrap (48+(n:Int) % 10)=48+(n:Int) % 10:=by rw [Dc.wrap_u];omega
 have q4:IntKind.u8.wrap (48+(n:Int) % 10)=48+(n:Int) % 10:=by show _ % 256=_;omega
 have q5:(48+(n:Int) % 10) % 256=48+(n:Int) % 10:=by omega
 have q6:(48+(n:Int) % 10) % 18446744073709551616=48+(n:Int) % 10:=by omega
 have q7:(n:Int) / 10 % 18446744073709551616=(n:Int) / 10:=by omega
 have hcv0:=Dc.conv_one w.drew _ hc0 hc1
 rw [e1,HB.out] at hcv0
 have hcv1:(convert 22 9 (.slice (some ⟨w.heap.size,0,none⟩) 1 1)).run Tryz.prog (w.alloc (.cells #[.int .u8 (48+(n:Int) % 10)] 5)).drew = .ok (.string ⟨#[b]⟩) (w.alloc (.cells #[.int .u8 (48+(n:Int) % 10)] 5)).drew:=hcv0
 go_wp2_with fail
 refine wp_region_held_drew (S:=fun _=>True) (by kernel_rfl) trivial (fun hHeld => ?_)
 refine Tk 0 (.int .u64 (n:Int)) rfl ?_
 try dsimp only [Act.put]
 refine Tk 1 (.int .u64 ((n:Int) / 10)) rfl ?_
 try dsimp only [Act.put]
 refine Tk 3 (.int .u64 (n:Int)) rfl ?_
 try dsimp only [Act.put]
 refine Tk 4 (.int .u64 ((n:Int) % 10)) rfl ?_
 try dsimp only [Act.put]
 refine Tk 5 (.int .u64 (48+(n:Int) % 10)) rfl ?_
 try dsimp only [Act.put]
 refine Tk 6 (.int .u8 (48+(n:Int) % 10)) rfl ?_
 try dsimp only [Act.put]
 refine wpAnyH_ready (rs:=[2,7]) (by kernel_rfl) (by simp) ?_
 refine AllReadyH.cons rfl (fun K hK => ?_) (AllReadyH.cons rfl (fun K hK => ?_) AllReadyH.nil)
 ·go_simp
  (go_at_call 22;(refine (ih.out _).mono ?_;rintro e w1 ⟨rfl,hb1⟩))
  have hcv2:=Dc.conv_one w1 _ hc0 hc1
  rw [e1,HB.out] at hcv2
  go_wp2
  refine hK.out _ _ trivial (fun hHeld => ?_)
  clear hK
  try dsimp only [Act.put]
  refine wpAnyH_ready (rs:=[7]) (by kernel_rfl) (by simp) ?_
  refine AllReadyH.cons rfl (fun K hK => ?_) AllReadyH.nil
  go_simp
  refine hK.out _ _ trivial (fun hHeld => ?_)
  clear hK
  try dsimp only [Act.put]
  refine wpAnyH_ready (rs:=[8]) (by kernel_rfl) (by simp) ?_
  refine AllReadyH.cons rfl (fun K hK => ?_) AllReadyH.nil
  go_simp
  refine hK.out _ _ trivial (fun hHeld => ?_)
  clear hK
  try dsimp only [Act.put]
  refine Tk 9 (.string (ds++⟨#[b]⟩)) rfl ?_
  simp [Act.put]
  refine Tk 10 (.string (ds++⟨#[b]⟩)) rfl ?_
  simp [Act.put]
  refine wpAnyH_done (by kernel_rfl) ?_ _
  go_wp2
  go_ret
  exact ⟨rfl,(Dc.keepB (Below.refl _ _).drew hb1).alloc (by have:=hb1.size;simpa using this) _⟩
 ·go_simp
  refine hK.out _ _ trivial (fun hHeld => ?_)
  clear hK
  try dsimp only [Act.put]
  refine wpAnyH_ready (rs:=[2,8]) (by kernel_rfl) (by simp) ?_
  refine AllReadyH.cons rfl (fun K hK => ?_) (AllReadyH.cons rfl (fun K hK => ?_) AllReadyH.nil)
  ·go_simp
   (go_at_call 22;(refine (ih.out _).mono ?_;rintro e w1 ⟨rfl,hb1⟩))
   have hcv4:=Dc.conv_on (w:=w.drew) _ hc0 hc1 hb1
   rw [e1,HB.out] at hcv4
   have hcv3:(convert 22 9 (.slice (some ⟨w.heap.size,0,none⟩) 1 1)).run Tryz.prog w1 = .ok (.string ⟨#[b]⟩) w1:=hcv4
   go_wp2
   refine hK.out _ _ trivial (fun hHeld => ?_)
   clear hK
   try dsimp only [Act.put]
   refine wpAnyH_ready (rs:=[8]) (by kernel_rfl) (by simp) ?_
   refine AllReadyH.cons rfl (fun K hK => ?_) AllReadyH.nil
   go_simp
   refine hK.out _ _ trivial (fun hHeld => ?_)
   clear hK
   try dsimp only [Act.put]
   refine Tk 9 (.string (ds++⟨#[b]⟩)) rfl ?_
   simp [Act.put]
   refine Tk 10 (.string (ds++⟨#[b]⟩)) rfl ?_
   simp [Act.put]
   refine wpAnyH_done (by kernel_rfl) ?_ _
   go_wp2
   go_ret
   exact ⟨rfl,Dc.keepB ((Below.refl _ _).drew.alloc (Nat.le_refl _) _) hb1⟩
  ·go_simp
   refine hK.out _ _ trivial (fun hHeld => ?_)
   clear hK
   try dsimp only [Act.put]
   refine wpAnyH_ready (rs:=[2]) (by kernel_rfl) (by simp) ?_
   refine AllReadyH.cons rfl (fun K hK => ?_) AllReadyH.nil
   go_simp
   (go_at_call 22;(refine (ih.out _).mono ?_;rintro e w1 ⟨rfl,hb1⟩))
   go_wp2
   refine hK.out _ _ trivial (fun hHeld => ?_)
   clear hK
   try dsimp only [Act.put]
   refine Tk 9 (.string (ds++⟨#[b]⟩)) rfl ?_
   simp [Act.put]
   refine Tk 10 (.string (ds++⟨#[b]⟩)) rfl ?_
   simp [Act.put]
   refine wpAnyH_done (by kernel_rfl) ?_ _
   go_wp2
   go_ret
   exact ⟨rfl,Dc.keepB ((Below.refl _ _).drew.alloc (Nat.le_refl _) _) hb1⟩
theorem Dc.decLen : ∀ (d n:Nat),n < 10 ^ (d+1)→(Lib.decDigits n).length≤d+1
 | 0,n,h=>by rw [Lib.decDigits_one (by simpa using h)];simp
 | d+1,n,h=>by
  by_cases h1:n < 10
  ·rw [Lib.decDigits_one h1];simp
  ·rw [Lib.decDigits,dif_neg h1]
   have:=Dc.decLen d (n / 10) (by rw [Nat.pow_succ] at h;omega)
   simp;omega
theorem Dc.decLen20 (n:Nat) (h:n < 18446744073709551616):(Lib.decDigits n).length≤20:=Dc.decLen 19 n (by omega)
theorem Dc.arr_app (l:List UInt8) (b:UInt8):(⟨l.toArray⟩:ByteArray)++⟨#[b]⟩=⟨(l++[b]).toArray⟩:=by
 apply ByteArray.ext
 simp
theorem Dc.l1Decimal_any : ∀ (n:Nat) (_:n < 18446744073709551616) (w:World),
  Calls Tryz.prog 22 #[.int .u64 (n:Int)] w fun e w'=>e = .returned (.string ⟨(Lib.decDigits n).toArray⟩)∧Below w.heap.size w w':=by
 intro n
 induction n using Nat.strongRecOn with
 | _ n ih =>
  intro hn w
  by_cases h:n < 10
  ·exact Dc.l1Decimal_one n w h
  ·have:=Dc.l1Decimal_step n w h hn ⟨(Lib.decDigits (n / 10)).toArray⟩ (by have:=Dc.decLen20 (n / 10) (by omega);simp [ByteArray.size];omega) _ rfl (fun w=>by have:=ih (n / 10) (by omega) (by omega) w;simpa using this)
   rw [Lib.decDigits,dif_neg h,← Dc.arr_app]
   exact this
theorem Dc.l1Decimal_i (x:Int) (h0:0≤x) (h1:x < 18446744073709551616) (w:World) :
  Calls Tryz.prog 22 #[.int .u64 x] w fun e w'=>e = .returned (.string ⟨(Lib.decDigits x.toNat).toArray⟩)∧Below w.heap.size w w':=by
 have:=Dc.l1Decimal_any x.toNat (by omega) w
 rwa [show ((x.toNat:Nat):Int)=x by omega] at this
def Gn.plainW (w:World) (k:Nat):Prop := ∀ cur t fr,w.heap[k]? = some (.cells cur t fr)→t≠44∧t≠121∧t≠140
structure Gn.Fw (B:Nat) (w w':World):Prop where
 os:w'.os=w.os
 tape:w'.tape=w.tape
 output:w'.output=w.output
 size:w.heap.size≤w'.heap.size
 keep:∀ k,k < w.heap.size→k < B∨Gn.plainW w k→w'.heap[k]? = w.heap[k]?
theorem Gn.Fr.w {B:Nat} {w w':World} (h:Gn.Fr B w w'):Gn.Fw B w w':=⟨h.os,h.tape,h.output,h.size,fun k hk hp=>h.keep k hk (hp.imp id (fun hq cur t fr hc=>⟨(hq cur t fr hc).1,(hq cur t fr hc).2.1⟩))⟩
theorem Gn.Fw.refl (B:Nat) (w:World):Gn.Fw B w w:=⟨rfl,rfl,rfl,Nat.le_refl _,fun _ _ _=>rfl⟩
theorem Gn.Fw.trans {B:Nat} {a b c:World} (h:Gn.Fw B a b) (k:Gn.Fw B b c):Gn.Fw B a c :=
 ⟨k.os.trans h.os,k.tape.trans h.tape,k.output.trans h.output,Nat.le_trans h.size k.size,fun i hi hp=>by
  have e:=h.keep i hi hp
  refine (k.keep i (Nat.lt_of_lt_of_le hi h.size) (hp.imp id (fun hq cur t fr hc=>hq cur t fr (e ▸ hc)))).trans e⟩
theorem Gn.Fw.of_below {B:Nat} {w w':World} (h:Below w.heap.size w w'):Gn.Fw B w w':=⟨h.os,h.tape,h.output,h.size,fun k hk _=>h.block k hk⟩
theorem Gn.Fw.alloc {B:Nat} {w w':World} (h:Gn.Fw B w w') (o:Obj):Gn.Fw B w (w'.alloc o):=h.trans (Gn.Fw.of_below ((Below.refl _ w').alloc (Nat.le_refl _) o))
theorem Gn.Fw.drew {B:Nat} {w w':World} (h:Gn.Fw B w w'):Gn.Fw B w w'.drew:=⟨h.os,h.tape,h.output,h.size,h.keep⟩
theorem Gn.Fw.row {B A:Nat} {w w':World} (h:Gn.Fw B w w') {e size n:Nat} {v:Value} {xs:List Value} (hr:w.ownsRow A e size v n xs) (he:e≠44∧e≠121∧e≠140):w'.ownsRow A e size v n xs :=
 Gn.own_keep hr (fun k hk _ hl=>h.keep k hl (.inr (fun cur t fr hc=>by obtain ⟨c2,h2⟩:=(Gn.row_type hr hk).2;rw [h2] at hc;injection hc with hc;injection hc with _ hc _;rw [← hc];exact he)))
theorem Gn.Row.fw {A B:Nat} {w w':World} {v:Value} {K:Nat} (h:Gn.Row A w v K) (hf:Gn.Fw B w w'):Gn.Row A w' v K:=by
 obtain ⟨l,h1,h2,h3⟩:=h
 exact ⟨l,h1,h2,hf.row h3 (by decide)⟩
theorem Gn.Fns.fw {B:Nat} {w w':World} {fv:Value} {F:List Gn.Sg} (h:Gn.Fns B w fv F) (hf:Gn.Fw B w w'):Gn.Fns B w' fv F:=⟨hf.row h.row (by decide),fun s hs=>hf.row (h.par s hs) (by decide),h.bd⟩
theorem Gn.Fw.grown {B:Nat} {V w w':World} (h:Gn.Fw B V w) {A n:Nat} {v:Value} {xs:List Value} (ho:w.ownsRow A 106 6 v n xs) (hA:V.heap.size≤A) (hg:w.grownBy w' v.ownBlock):Gn.Fw B V w' :=
 ⟨hg.os.trans h.os,hg.tape.trans h.tape,hg.output.trans h.output,Nat.le_trans h.size hg.size,fun k hk hp=>(hg.block k (Nat.lt_of_lt_of_le hk h.size) (fun e=>by have:=(Gn.row_type ho e.symm).1.1;omega)).trans (h.keep k hk hp)⟩
theorem Gn.St.putW {B g R P P':Nat} {w:World} {nv:Value} {nl:List (ByteArray × Int)} {fv:Value} {F:List Gn.Sg} {ret loops count size:Int} (h:Gn.St B g R P w nv nl fv F ret loops count size) (hP:P≤P') (k:Nat) (x:Value) {ret' loops' count' size':Int} (he:(#[.pointer (some ⟨R,0,none⟩),nv,fv,.int .i64 ret,.int .i64 loops,.int .i64 count,.int .i64 size]:Array Value).setIfInBounds k x = #[.pointer (some ⟨R,0,none⟩),nv,fv,.int .i64 ret',.int .i64 loops',.int .i64 count',.int .i64 size']) (hb:Gn.ty ret'∧(0≤loops'∧loops'≤P')∧(0≤count'∧count'≤P')∧(-(P':Int)≤size'∧size'≤P')) :
  Gn.St B g R P' (w.setCell ⟨g,k,none⟩ x) nv nl fv F ret' loops' count' size'∧Gn.Fw B w (w.setCell ⟨g,k,none⟩ x) :=
 ⟨(h.put hP k x he hb).1,(h.put hP k x he hb).2.w⟩
theorem Gn.pick_anyW {B g R P:Nat} {w:World} {nv:Value} {nl:List (ByteArray × Int)} {fv:Value} {F:List Gn.Sg} {ret loops count size:Int} (h:Gn.St B g R P w nv nl fv F ret loops count size) (n:Int) (h1:1≤n) (h2:n≤1000000000) (hP:P≤1000000000) :
  Calls Tryz.prog 8 #[.pointer (some ⟨R,0,none⟩),.int .i64 n] w fun e w' => ∃ v:Nat,e = .returned (.int .i64 (v:Int))∧(v:Int) < n∧Gn.St B g R (P+1) w' nv nl fv F ret loops count size∧Gn.Fw B w w' :=
 (Gn.pick_any h n h1 h2 hP).mono fun _ _ ⟨v,he,hv,hs,hf⟩=>⟨v,he,hv,hs,hf.w⟩
def Gn.XPostW (B g R P K:Nat) (w:World) (nv:Value) (nl:List (ByteArray × Int)) (fv:Value) (F:List Gn.Sg) (ret loops count:Int) (e:Ending) (w':World):Prop := ∃ a n c size,e = .returned (.slice a n c)∧Gn.Row w.heap.size w' (.slice a n c) K∧Gn.St B g R P w' nv nl fv F ret loops count size∧Gn.Fw B w w'
def Gn.ExprW (B g R:Nat) (d:Nat):Prop := ∀ (P:Nat) (w:World) (nv:Value) (nl:List (ByteArray × Int)) (fv:Value) (F:List Gn.Sg) (ret loops count size:Int) (t:Int),Gn.St B g R P w nv nl fv F ret loops count size→P+Gn.eb d≤700000000→Calls Tryz.prog 102 #[.pointer (some ⟨g,0,none⟩),.int .i64 t,.int .i64 (d:Int)] w (Gn.XPostW B g R (P+Gn.eb d) (Gn.eb d) w nv nl fv F ret loops count)
theorem Gn.expr_anyW (B g R:Nat) (d:Nat):Gn.ExprW B g R d:=fun P w nv nl fv F ret loops count size t hs hP =>
 (Gn.expr_any B g R d P w nv nl fv F ret loops count size t hs hP).mono fun _ _ ⟨a,n,c,s,he,hr,hs,hf⟩=>⟨a,n,c,s,he,hr,hs,hf.w⟩
theorem Gn.dec_any (n:Int) (h0:0≤n) (h1:n≤9223372036854775807) (w:World) :
  Calls Tryz.prog 18 #[.int .i64 n] w fun e w' => ∃ t:ByteArray,e = .returned (.string t)∧t.size≤20∧Below w.heap.size w w':=by
 have hn:¬ n < 0:=by omega
 have HD:Hid (∀ U:World,Calls Tryz.prog 22 #[.int .u64 n] U fun e w' => ∃ t:ByteArray,e = .returned (.string t)∧t.size≤20∧Below U.heap.size U w'):=fun U=>by
  obtain ⟨m,rfl⟩:=Int.eq_ofNat_of_zero_le h0
  refine (Dc.l1Decimal_any m (by omega) U).mono ?_
  rintro e w' ⟨he,hb⟩
  exact ⟨_,he,by have:=Dc.decLen20 m (by omega);show (Lib.decDigits m).toArray.size≤20;simpa using this,hb⟩
 have hw:n % 18446744073709551616=n:=by omega
 go_enter Tryz.func18,Tryz.ntmps18
 go_wp2_with (go_at_call 22;refine (HD.out _).mono ?_;rintro e w1 ⟨t,rfl,ht,hb⟩)
 go_ret
 exact ⟨t,rfl,ht,hb⟩
theorem Gn.own_cut {w:World} {B e size n:Nat} {a:Option Addr} {c:Nat} {xs:List Value} (h:w.ownsRow B e size (.slice a n c) n xs) (m:Nat) (hm:m≤n):w.ownsRow B e size (.slice a m c) m (xs.take (m * size)):=by
 have hl:m * size≤n * size:=Nat.mul_le_mul_right _ hm
 refine ⟨by rw [List.length_take,h.1];omega, ?_⟩
 rcases h.2 with ⟨he,h0⟩ | ⟨g,cap,cur,he,hB,hg,h1,h2,h3,h4⟩
 ·injection he with e1 e2 e3
  exact .inl ⟨by rw [e1,e3,show m=0 by omega],by omega⟩
 ·injection he with e1 e2 e3
  refine .inr ⟨g,cap,cur,by rw [e1,e3],hB,hg,by omega,h2,h3, ?_⟩
  rw [← h4,List.take_take,Nat.min_eq_left hl]
theorem Gn.St.addName {B g R P:Nat} {w V w5:World} {nv v5:Value} {nl:List (ByteArray × Int)} {fv:Value} {F:List Gn.Sg} {ret loops count size:Int} (h:Gn.St B g R P w nv nl fv F ret loops count size) (x:ByteArray) (t:Int) (hx:x.size≤30) (ht:Gn.ty t) (hb:Below w.heap.size w V) (ho:w5.ownsRow g 140 2 v5 (nl.length+1) (Gn.nmCs nl++[.string x,.int .i64 t])) (hg:V.grownBy w5 nv.ownBlock) :
  Gn.St B g R (P+1) (w5.setCell ⟨g,1,none⟩ v5) v5 (nl++[(x,t)]) fv F ret loops count size∧Gn.Fw B w (w5.setCell ⟨g,1,none⟩ v5):=by
 have hV:=h.below hb
 have hlo:=h.lo
 have hzb:=hb.size
 have hzg:=hg.size
 have hgl:g < w.heap.size:=(Array.getElem?_eq_some_iff.1 h.box).1
 have hne:∀ k,nv.ownBlock=some k→k≠g∧k≠R∧g≤k:=fun k hk=>by
  obtain ⟨hkl,c1,hc1⟩:=Gn.row_type h.names hk
  refine ⟨fun e => ?_,fun e => ?_,hkl.1⟩
  ·subst e;rw [h.box] at hc1;injection hc1 with hc1;injection hc1 with _ hc1 _;exact absurd hc1 (by decide)
  ·subst e
   obtain ⟨p,_,hr⟩:=h.rd
   obtain ⟨c2,hc2⟩:=Gn.Rd_type hr
   rw [hc2] at hc1;injection hc1 with hc1;injection hc1 with _ hc1 _;exact absurd hc1 (by decide)
 have hne5:∀ k,v5.ownBlock=some k→k≠g:=fun k hk e=>by
  obtain ⟨hkl,c1,hc1⟩:=Gn.row_type ho hk
  subst e
  have h5:w5.heap[k]? = w.heap[k]?:=(hg.block k (by omega) (fun e=>(hne k e.symm).1 rfl)).trans (hb.block k hgl)
  rw [h5,h.box] at hc1;injection hc1 with hc1;injection hc1 with _ hc1 _;exact absurd hc1 (by decide)
 have hk5:∀ k,k < w.heap.size→nv.ownBlock≠some k→k≠g→(w5.setCell ⟨g,1,none⟩ v5).heap[k]? = w.heap[k]?:=fun k hk h1 h2=>(Gn.set_oth h2).trans ((hg.block k (by omega) (fun e=>h1 e.symm)).trans (hb.block k hk))
 have hbx:w5.heap[g]? = w.heap[g]?:=(hg.block g (by omega) (fun e=>(hne g e.symm).1 rfl)).trans (hb.block g hgl)
 have hf:Gn.Fw B w (w5.setCell ⟨g,1,none⟩ v5):=⟨hg.os.trans hb.os,hg.tape.trans hb.tape,hg.output.trans hb.output,by simp only [World.setCell,Array.size_modify];omega,fun k hk hp=>by
  refine hk5 k hk (fun e => ?_) (fun e => ?_)
  ·rcases hp with hp | hp
   ·have:=(hne k e).2.2;omega
   ·obtain ⟨c1,hc1⟩:=(Gn.row_type h.names e).2
    exact (hp _ _ _ hc1).2.2 rfl
  ·subst e
   rcases hp with hp | hp
   ·omega
   ·exact (hp _ _ _ h.box).2.1 rfl⟩
 obtain ⟨p,hp,hr⟩:=h.rd
 obtain ⟨b1,b2,b3,b4⟩:=h.bd
 refine ⟨⟨h.lo,⟨p,by omega, ?_⟩, ?_, ?_, ?_,h.fns.fw hf,b1,by omega,by omega,by omega⟩,hf⟩
 ·obtain ⟨v,n,h0,hn,hB⟩:=hr.box
  have hkR:∀ k,k≤R→nv.ownBlock≠some k→(w5.setCell ⟨g,1,none⟩ v5).heap[k]? = w.heap[k]?:=fun k hk h1=>hk5 k (by omega) h1 (by omega)
  refine ⟨v,n,(hkR R (Nat.le_refl _) (fun e=>(hne R e).2.1 rfl)).trans h0,hn, ?_⟩
  rcases hB with e | ⟨b,off,cap,h1,h2,h3⟩
  ·exact .inl e
  ·refine .inr ⟨b,off,cap,h1,h2,fun i hi => ?_⟩
   obtain ⟨y,y0,y1,hy⟩:=h3 i hi
   refine ⟨y,y0,y1, ?_⟩
   rw [World.cell?_of_block (a:=⟨b,off+i,none⟩) (hkR b (by omega) (fun e => ?_))]
   ·exact hy
   ·have:=(hne b e).2.2;omega
 ·rw [Gn.set_same (hbx.trans h.box)];rfl
 ·have:=Gn.own_keep ho (w':=w5.setCell ⟨g,1,none⟩ v5) (fun k hk _ _=>Gn.set_oth (hne5 k hk))
  simpa [Gn.nmCs,Gn.nmC] using this
 ·refine ⟨by have:=h.nbd.1;simp;omega,fun y hy => ?_⟩
  rcases List.mem_append.1 hy with hy | hy
  ·exact h.nbd.2 y hy
  ·simp at hy;subst hy;exact ⟨hx,ht⟩
def Gn.FreshPost (B g R P:Nat) (w:World) (nv:Value) (nl:List (ByteArray × Int)) (fv:Value) (F:List Gn.Sg) (ret loops count size:Int) (e:Ending) (w':World):Prop := ∃ t:ByteArray,e = .returned (.string t)∧t.size≤30∧Gn.St B g R P w' nv nl fv F ret loops count size∧Gn.Fw B w w'
theorem Gn.fresh_any {B g R P:Nat} {w:World} {nv:Value} {nl:List (ByteArray × Int)} {fv:Value} {F:List Gn.Sg} {ret loops count size:Int} (h:Gn.St B g R P w nv nl fv F ret loops count size) (hP:P≤800000000) :
  Calls Tryz.prog 118 #[.pointer (some ⟨g,0,none⟩)] w (Gn.FreshPost B g R (P+1) w nv nl fv F ret loops (count+1) size):=by
 have g5:=h.cells.2.2.2.2.2.1
 have f5:=h.froz 5
 have hbd:=h.bd
 have hw:wrap64 (count+1)=count+1:=IntWalk.wrap64_in _ (by omega)
 obtain ⟨hs1,hf1⟩:=h.putW (P':=P+1) (by omega) 5 (.int .i64 (count+1)) (size':=size) (ret':=ret) (loops':=loops) (count':=count+1) rfl ⟨hbd.1,by omega,by omega,by omega⟩
 have HS1:Hid (Gn.St B g R (P+1) (w.setCell ⟨g,5,none⟩ (.int .i64 (count+1))) nv nl fv F ret loops (count+1) size):=hs1
 have HF1:Hid (Gn.Fw B w (w.setCell ⟨g,5,none⟩ (.int .i64 (count+1)))):=hf1
 obtain ⟨V,hV⟩:∃ V,w.setCell ⟨g,5,none⟩ (.int .i64 (count+1))=V:=⟨_,rfl⟩
 rw [hV] at HS1 HF1
 have k5:=HS1.out.cells.2.2.2.2.2.1
 clear h hs1 hf1
 go_enter Tryz.func118,Tryz.ntmps118
 go_wp2_with fail
 refine (Gn.dec_any (count+1) (by omega) (by omega) V).mono ?_
 rintro e w2 ⟨t,rfl,ht,hb⟩
 have hlim:¬ (9223372036854775807 < 1+t.size):=by omega
 have hlim2:¬ (9223372036854775806 < t.size):=by omega
 go_wp2
 go_ret
 exact ⟨_,rfl,by have e1:(⟨#[118]⟩:ByteArray).size=1:=rfl;simp only [ByteArray.size_append,e1];omega,HS1.out.below hb,HF1.out.trans (Gn.Fw.of_below hb)⟩
theorem Gn.nm_take (nl:List (ByteArray × Int)) (n:Nat):(Gn.nmCs nl).take (n * 2)=Gn.nmCs (nl.take n):=by
 induction nl generalizing n with
 | nil=>simp [Gn.nmCs]
 | cons x nl ih =>
  cases n with
  | zero=>simp [Gn.nmCs]
  | succ n =>
   have:=ih n
   unfold Gn.nmCs at *
   rw [List.take_succ_cons,List.flatMap_cons,List.flatMap_cons,← this,Nat.add_mul,Nat.one_mul]
   simp [Gn.nmC]
theorem Gn.St.cutName {B g R P:Nat} {w:World} {a:Option Addr} {c:Nat} {nl:List (ByteArray × Int)} {fv:Value} {F:List Gn.Sg} {ret loops count size:Int} (h:Gn.St B g R P w (.slice a nl.length c) nl fv F ret loops count size) (n:Nat) (hn:n≤nl.length) :
  Gn.St B g R P (w.setCell ⟨g,1,none⟩ (.slice a n c)) (.slice a n c) (nl.take n) fv F ret loops count size∧Gn.Fw B w (w.setCell ⟨g,1,none⟩ (.slice a n c)):=by
 have hlo:=h.lo
 have hf:Gn.Fw B w (w.setCell ⟨g,1,none⟩ (.slice a n c)):=⟨rfl,rfl,rfl,by simp [World.setCell],fun j hj hp=>Gn.set_oth (fun e=>by
  subst e
  rcases hp with hp | hp
  ·omega
  ·exact (hp _ _ _ h.box).2.1 rfl)⟩
 obtain ⟨p,hp,hr⟩:=h.rd
 refine ⟨⟨h.lo,⟨p,by omega,Gn.Rd_keep hr (fun j hj=>Gn.set_oth (by omega))⟩,by rw [Gn.set_same h.box];rfl, ?_,⟨by have:=h.nbd.1;rw [List.length_take];omega,fun x hx=>h.nbd.2 x (List.mem_of_mem_take hx)⟩,h.fns.fw hf,h.bd⟩,hf⟩
 have h1:=Gn.own_cut h.names n hn
 rw [Gn.nm_take] at h1
 rw [List.length_take,Nat.min_eq_left hn]
 refine Gn.own_keep h1 (fun j hj _ _=>Gn.set_oth (fun e => ?_))
 subst e
 obtain ⟨c2,hc⟩:=(Gn.row_type h1 hj).2
 rw [h.box] at hc;injection hc with hc;injection hc with _ hc _;exact absurd hc (by decide)
theorem Gn.back_any {B g R P:Nat} {w:World} {nv:Value} {nl:List (ByteArray × Int)} {fv:Value} {F:List Gn.Sg} {ret loops count size:Int} (h:Gn.St B g R P w nv nl fv F ret loops count size) (hP:P+2600≤700000000) :
  Calls Tryz.prog 103 #[.pointer (some ⟨g,0,none⟩)] w (Gn.XPostW B g R (P+2600) 2600 w nv nl fv F ret loops count):=by
 have HE1:Hid (Gn.ExprW B g R 1):=Gn.expr_anyW B g R 1
 have HE2:Hid (Gn.ExprW B g R 2):=Gn.expr_anyW B g R 2
 have e1:Gn.eb 1=500:=rfl
 have e2:Gn.eb 2=2500:=rfl
 have HS:Hid (Gn.St B g R P w nv nl fv F ret loops count size):=h
 have g0:=h.cells.1
 clear h
 go_enter Tryz.func103,Tryz.ntmps103
 go_wp2_with fail
 refine (Gn.pick_anyW HS.out 8 (by omega) (by omega) (by omega)).mono ?_
 rintro e w1 ⟨v,rfl,hv,hs1,hf1⟩
 have g3:=hs1.cells.2.2.2.1
 have hz1:=hf1.size
 clear g0
 by_cases hv0:v=0
 ·subst hv0
  go_wp2_with fail
  refine (HE1.out _ w1 nv nl _ F ret loops count size 2 hs1 (by omega)).mono ?_
  rintro e w2 ⟨a2,n2,c2,s2,rfl,hr2,hs2,hf2⟩
  have hz2:=hf2.size
  go_wp2_with fail
  refine (Gn.over1 ⟨17,0,0,0,⟨#[]⟩,0⟩ Gn.no_text hr2 (by omega)).mono ?_
  rintro e w3 ⟨a3,n3,c3,rfl,hr3,hb3⟩
  go_wp2_with fail
  go_ret
  exact ⟨a3,n3,c3,s2,rfl,hr3.mono (by omega) (by omega),(hs2.below hb3).mono (by omega),(hf1.trans hf2).trans (Gn.Fw.of_below hb3)⟩
 ·have hvI:((v:Int) == 0)=false:=by simp;omega
  by_cases hr0:ret=0
  ·subst hr0
   go_wp2_with fail
   go_ret
   exact ⟨_,_,_,size,rfl,(Gn.new_one w1 ⟨16,0,0,0,⟨#[]⟩,0⟩ Gn.no_text).mono (by omega) (by omega),(hs1.below ((Below.refl _ w1).alloc (Nat.le_refl _) _)).mono (by omega),hf1.alloc _⟩
  ·have hrI:(ret == 0)=false:=by simpa using hr0
   go_wp2_with fail
   refine (HE2.out _ w1 nv nl _ F ret loops count size ret hs1 (by omega)).mono ?_
   rintro e w2 ⟨a2,n2,c2,s2,rfl,hr2,hs2,hf2⟩
   have hz2:=hf2.size
   go_wp2_with fail
   refine (Gn.over1 ⟨16,0,0,0,⟨#[]⟩,0⟩ Gn.no_text hr2 (by omega)).mono ?_
   rintro e w3 ⟨a3,n3,c3,rfl,hr3,hb3⟩
   go_wp2_with fail
   go_ret
   exact ⟨a3,n3,c3,s2,rfl,hr3.mono (by omega) (by omega),(hs2.below hb3).mono (by omega),(hf1.trans hf2).trans (Gn.Fw.of_below hb3)⟩
end Go.Proofs.YtfoimmnlojjfbaaGreatDoor
