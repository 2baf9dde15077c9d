import Derived.Test.YtfoimmnlojjfbaaGreatDoorKDrawA
import Derived.LoopTactic
import Derived.RangeFuncBox
import Derived.OwnWalkIn
import Derived.Test.YtfoimmnlojjfbaaGreatDoorKScanA
import Derived.Maps.AppendAt
import Derived.Deep.RegionHeld3
set_option maxRecDepth 100000
set_option maxHeartbeats 2000000
namespace Go.Proofs.YtfoimmnlojjfbaaGreatDoor
open Go.RowKit
attribute [local go_sem] Oper.semAt_some
theorem Mill.mul_odd (a k:Nat) (h:k % 2=1):a * k=a * (k / 2)+a * (k / 2)+a:=by
 have e:a * (2 * (k / 2)+1)=a * (k / 2)+a * (k / 2)+a:=by rw [Nat.mul_add,Nat.mul_one,Nat.mul_left_comm];omega
 rwa [show 2 * (k / 2)+1=k by omega] at e
theorem Mill.mul_even (a k:Nat) (h:k % 2=0):a * k=a * (k / 2)+a * (k / 2):=by
 have e:a * (2 * (k / 2))=a * (k / 2)+a * (k / 2):=by rw [Nat.mul_left_comm];omega
 rwa [show 2 * (k / 2)=k by omega] at e
theorem Mill.Rd.next {w w':World} {R p:Nat} (h:Mill.Rd w R p) (ha:w'.Alike (w.setCell ⟨R,1,none⟩ (.int .i64 ((p:Int)+1)))):Mill.Rd w' R (p+1):=by
 obtain ⟨v,n,hb,hn,hB⟩:=h.box
 have hc:∀ a,w'.cell? a=(w.setCell ⟨R,1,none⟩ (.int .i64 ((p:Int)+1))).cell? a:=fun a=>by unfold World.cell?;rw [ha.1]
 refine ⟨v,n, ?_,hn, ?_⟩
 ·rw [ha.1];simp [World.setCell,Array.getElem?_modify,hb]
 ·rcases hB with h0 | ⟨b,off,cap,h1,h2,h3⟩
  ·exact .inl h0
  ·refine .inr ⟨b,off,cap,h1,h2,fun i hi => ?_⟩
   obtain ⟨x,x0,x1,hx⟩:=h3 i hi
   exact ⟨x,x0,x1,by rw [hc];exact (World.cell?_setCell_other _ _ _ _ (by intro e;injection e with e1;omega)).trans hx⟩
structure Mill.But (R:Nat) (w w':World):Prop where
 os:w'.os=w.os
 tape:w'.tape=w.tape
 output:w'.output=w.output
 size:w.heap.size≤w'.heap.size
 block:∀ k,k < w.heap.size→k≠R→w'.heap[k]? = w.heap[k]?
theorem Mill.But.refl (R:Nat) (w:World):Mill.But R w w:=⟨rfl,rfl,rfl,Nat.le_refl _,fun _ _ _=>rfl⟩
theorem Mill.But.trans {R:Nat} {a b c:World} (h:Mill.But R a b) (k:Mill.But R b c):Mill.But R a c :=
 ⟨k.os.trans h.os,k.tape.trans h.tape,k.output.trans h.output,Nat.le_trans h.size k.size,fun i hi hR=>(k.block i (Nat.lt_of_lt_of_le hi h.size) hR).trans (h.block i hi hR)⟩
theorem Mill.But.of_below {R:Nat} {w w':World} (h:Below w.heap.size w w'):Mill.But R w w':=⟨h.os,h.tape,h.output,h.size,fun k hk _=>h.block k hk⟩
theorem Mill.But.alloc {R:Nat} {w w':World} (h:Mill.But R w w') (o:Obj):Mill.But R w (w'.alloc o) :=
 h.trans (Mill.But.of_below ((Below.refl _ w').alloc (Nat.le_refl _) o))
structure Mill.Dr (R p K:Nat) (w w':World):Prop where
 at_:∃ p',p≤p'∧p'≤p+K∧Mill.Rd w' R p'
 but:Mill.But R w w'
theorem Mill.Rd.below {w w':World} {R p:Nat} (h:Mill.Rd w R p) (hb:Below w.heap.size w w'):Mill.Rd w' R p:=by
 obtain ⟨v,n,h0,hn,hB⟩:=h.box
 have hlt:=(Array.getElem?_eq_some_iff.1 h0).1
 refine ⟨v,n,(hb.block R hlt).trans h0,hn, ?_⟩
 rcases hB with e | ⟨b,off,cap,h1,h2,h3⟩
 ·exact .inl e
 ·refine .inr ⟨b,off,cap,h1,h2,fun i hi => ?_⟩
  obtain ⟨x,x0,x1,hx⟩:=h3 i hi
  exact ⟨x,x0,x1,(hb.cell (p:=⟨b,off+i,none⟩) (show b < w.heap.size by omega)).trans hx⟩
theorem Mill.Dr.below {R p K:Nat} {w w' w'':World} (h:Mill.Dr R p K w w') (hb:Below w'.heap.size w' w''):Mill.Dr R p K w w'':=by
 obtain ⟨p',h1,h2,h3⟩:=h.at_
 exact ⟨⟨p',h1,h2,h3.below hb⟩,h.but.trans (Mill.But.of_below hb)⟩
theorem Mill.Dr.alloc {R p K:Nat} {w w':World} (h:Mill.Dr R p K w w') (o:Obj):Mill.Dr R p K w (w'.alloc o):=h.below ((Below.refl _ w').alloc (Nat.le_refl _) o)
theorem Mill.Dr.refl {R p:Nat} {w:World} (h:Mill.Rd w R p):Mill.Dr R p 0 w w:=⟨⟨p,Nat.le_refl _,Nat.le_refl _,h⟩,Mill.But.refl R w⟩
theorem pick_dr (w:World) (R p n:Nat) (hR:Mill.Rd w R p) (hp:p < 1099511627776) (h1:1≤n) (h2:n≤1099511627776) :
  Calls Tryz.prog 8 #[.pointer (some ⟨R,0,none⟩),.int .i64 (n:Int)] w fun e w' => ∃ v:Nat,e = .returned (.int .i64 (v:Int))∧v < n∧Mill.Rd w' R (p+1)∧Mill.But R w w':=by
 refine (pick_any w R p n hR hp h1 h2).mono ?_
 rintro e w' ⟨v,he,hv,ha,ht⟩
 refine ⟨v,he,hv,hR.next ha,ha.2.1,ht,ha.2.2, ?_,fun k hk hkR => ?_⟩
 ·rw [ha.1];simp [World.setCell]
 ·rw [ha.1];simp [World.setCell,Array.getElem?_modify,Ne.symm hkR]
def Mill.strB (M:Nat):Value→Bool
 | .string t=>decide (t.size≤M)
 | _=>false
theorem Mill.strB_of {M:Nat} {v:Value} (h:Mill.strB M v=true):∃ t:ByteArray,v = .string t∧t.size≤M:=by
 cases v with
 | string t=>exact ⟨t,rfl,by simpa [Mill.strB] using h⟩
 | _=>simp [Mill.strB] at h
theorem Mill.tab_pick {w w1:World} {R:Nat} {cs:Array Value} {T M:Nat} (hB:Mill.But R (w.alloc (.cells cs T)) w1) (hR:R < w.heap.size) (hM:cs.toList.all (Mill.strB M)=true) (v:Nat) (hv:v < cs.size):∃ t:ByteArray,w1.cell? ⟨w.heap.size,v,none⟩=some (.string t)∧t.size≤M:=by
 have hb:=hB.block w.heap.size (by simp) (by omega)
 rw [World.alloc_heap_new] at hb
 obtain ⟨t,ht,hs⟩:=Mill.strB_of (List.all_eq_true.1 hM cs[v] (by simp))
 exact ⟨t,by simp [World.cell?,hb,hv,ht],hs⟩
theorem Mill.Rd.lt {w:World} {R p:Nat} (h:Mill.Rd w R p):R < w.heap.size:=by
 obtain ⟨v,n,h0,_⟩:=h.box
 exact (Array.getElem?_eq_some_iff.1 h0).1
theorem l1Path_any (w:World) (R p:Nat) (hR:Mill.Rd w R p) (hp:p < 1000000000000) :
  Calls Tryz.prog 48 #[.pointer (some ⟨R,0,none⟩)] w fun e w' => ∃ t:ByteArray,e = .returned (.string t)∧t.size≤5∧Mill.Dr R p 1 w w':=by
 go_enter Tryz.func48,Tryz.ntmps48
 go_wp2_with (go_at_call 8;refine (pick_dr _ R p 8 (hR.below ((Below.refl _ w).alloc (Nat.le_refl _) _)) (by omega) (by omega) (by omega)).mono ?_;rintro e w1 ⟨v,rfl,hv,hR1,hB1⟩;obtain ⟨t,ht,hts⟩:=Mill.tab_pick (M:=5) hB1 hR.lt (by decide) v (by simpa using hv))
 go_ret
 exact ⟨t,rfl,hts,⟨p+1,by omega,by omega,hR1⟩,(Mill.But.of_below ((Below.refl _ w).alloc (Nat.le_refl _) _)).trans hB1⟩
theorem l1Many_any (s:ByteArray) (n:Nat) (w:World) (hs:s.size≤1000) (hn:n≤100000) :
  Calls Tryz.prog 9 #[.string s,.int .i64 (n:Int)] w fun e w' => ∃ t:ByteArray,e = .returned (.string t)∧t.size=s.size * n∧Below w.heap.size w w':=by
 have hT:s.size * n≤100000000:=by
  have:=Nat.mul_le_mul hs hn;omega
 go_enter Tryz.func9,Tryz.ntmps9
 go_wp2
 go_loopw [0,1,5] (fun a b c wr => ∃ (s' out:ByteArray) (k:Nat),a = .string s'∧b = .int .i64 (k:Int)∧c = .string out∧out.size+s'.size * k=s.size * n∧s'.size≤200001000∧k≤100000∧Below w.heap.size w wr) (fun _ b _ _=>(intOf b).toNat)
 case atStart=>exact ⟨s,ByteArray.empty,n,rfl,rfl,rfl,by simp,by omega,hn,Below.refl _ _⟩
 case round =>
  obtain ⟨s',out,k,rfl,rfl,rfl,hk,hz,hk1,hbw⟩:=hrel
  by_cases hk0:k=0
  ·subst hk0
   simp at hk
   go_wp2
   go_ret
   exact ⟨out,rfl,hk,hbw⟩
  ·have hs1:s'.size≤s.size * n:=by
    have:=Nat.le_mul_of_pos_right s'.size (show 0 < k by omega);omega
   by_cases ho:k % 2=1
   ·have h3:((k:Int) % 2 == 1)=true:=by simp;omega
    go_wp2
    have e:=Mill.mul_odd s'.size k ho
    refine ⟨⟨s'++s',out++s',k / 2,rfl,by simp,rfl, ?_,by simp;omega,by omega,hbw⟩, ?_⟩
    ·simp only [ByteArray.size_append,Nat.add_mul];omega
    ·simp [intOf];omega
   ·have h3:((k:Int) % 2 == 1)=false:=by simp;omega
    go_wp2
    have e:=Mill.mul_even s'.size k (by omega)
    refine ⟨⟨s'++s',out,k / 2,rfl,by simp,rfl, ?_,by simp;omega,by omega,hbw⟩, ?_⟩
    ·simp only [ByteArray.size_append,Nat.add_mul];omega
    ·simp [intOf];omega
attribute [local go_sem] Oper.semAt_some
theorem Mill.Bytes.below {w w':World} {R n:Nat} {v:Value} (h:Mill.Bytes w R v n) (hR:R≤w.heap.size) (hb:Below w.heap.size w w'):Mill.Bytes w' R v n:=by
 rcases h with e | ⟨b,off,cap,h1,h2,h3⟩
 ·exact .inl e
 ·refine .inr ⟨b,off,cap,h1,h2,fun i hi => ?_⟩
  obtain ⟨x,x0,x1,hx⟩:=h3 i hi
  exact ⟨x,x0,x1,(hb.cell (p:=⟨b,off+i,none⟩) (show b < w.heap.size by omega)).trans hx⟩
theorem Mill.Rd.open_ {w:World} {v:Value} {n:Nat} (hn:n≤2000) (h:Mill.Bytes w w.heap.size v n):Mill.Rd (w.alloc (.cells #[v,.int .i64 0] 44)) w.heap.size 0 :=
 ⟨v,n,World.alloc_heap_new w _,hn,h.below (Nat.le_refl _) ((Below.refl _ w).alloc (Nat.le_refl _) _)⟩
theorem l1Open_any (w:World) (v:Value) (n:Nat) (hB:Mill.Bytes w w.heap.size v n) (hc:∀ a m c,v = .slice a m c→m≤c) (hn:n≤1048576) :
  Calls Tryz.prog 7 #[v] w fun e w'=>e = .returned (.pointer (some ⟨w.heap.size,0,none⟩))∧Mill.Rd w' w.heap.size 0∧Below w.heap.size w w':=by
 have hB':=hB
 rcases hB with ⟨a,cap,rfl,rfl⟩ | ⟨b,off,cap,rfl,hb,hcs⟩
 ·go_enter Tryz.func7,Tryz.ntmps7
  go_wp2
  go_ret
  exact ⟨rfl,Mill.Rd.open_ (Nat.zero_le _) hB',(Below.refl _ w).alloc (Nat.le_refl _) _⟩
 ·have hcap:=hc _ _ _ rfl
  by_cases h2:2000 < n
  ·go_enter Tryz.func7,Tryz.ntmps7
   go_wp2
   go_ret
   exact ⟨rfl,Mill.Rd.open_ (n:=2000) (by omega) (.inr ⟨b,off,cap,rfl,hb,fun i hi=>hcs i (by omega)⟩),(Below.refl _ w).alloc (Nat.le_refl _) _⟩
  ·go_enter Tryz.func7,Tryz.ntmps7
   go_wp2
   go_ret
   exact ⟨rfl,Mill.Rd.open_ (by omega) hB',(Below.refl _ w).alloc (Nat.le_refl _) _⟩
theorem pick_D {w w1:World} {R p k:Nat} (n:Int) (hD:Mill.Dr R p k w w1) (hp:p+k < 1000000000000) (h1:1≤n) (h2:n≤1048576) :
  Calls Tryz.prog 8 #[.pointer (some ⟨R,0,none⟩),.int .i64 n] w1 fun e w' => ∃ v:Nat,e = .returned (.int .i64 (v:Int))∧(v:Int) < n∧Mill.Dr R p (k+1) w w'∧Mill.But R w1 w':=by
 obtain ⟨p',a1,a2,hR⟩:=hD.at_
 obtain ⟨m,rfl⟩:=Int.eq_ofNat_of_zero_le (show 0≤n by omega)
 refine (pick_dr w1 R p' m hR (by omega) (by omega) (by omega)).mono ?_
 rintro e w' ⟨v,he,hv,hR',hB⟩
 exact ⟨v,he,by omega,⟨⟨p'+1,by omega,by omega,hR'⟩,hD.but.trans hB⟩,hB⟩
theorem path_D {w w1:World} {R p k:Nat} (hD:Mill.Dr R p k w w1) (hp:p+k < 100000000000) :
  Calls Tryz.prog 48 #[.pointer (some ⟨R,0,none⟩)] w1 fun e w' => ∃ t:ByteArray,e = .returned (.string t)∧t.size≤5∧Mill.Dr R p (k+1) w w'∧Mill.But R w1 w':=by
 obtain ⟨p',a1,a2,hR⟩:=hD.at_
 refine (l1Path_any w1 R p' hR (by omega)).mono ?_
 rintro e w' ⟨t,he,ht,hD'⟩
 obtain ⟨p'',b1,b2,hR'⟩:=hD'.at_
 exact ⟨t,he,ht,⟨⟨p'',by omega,by omega,hR'⟩,hD.but.trans hD'.but⟩,hD'.but⟩
theorem Mill.Dr.mono {R p k k':Nat} {w w':World} (h:Mill.Dr R p k w w') (hk:k≤k'):Mill.Dr R p k' w w':=by
 obtain ⟨p',a1,a2,hR⟩:=h.at_
 exact ⟨⟨p',a1,by omega,hR⟩,h.but⟩
theorem Mill.own_but {w w':World} {R B e size n:Nat} {v:Value} {xs:List Value} (h:w.ownsRow B e size v n xs) (hB:R < B) (hb:Mill.But R w w'):w'.ownsRow B e size v n xs:=by
 refine ⟨h.1, ?_⟩
 rcases h.2 with h2 | ⟨g,cap,cur,h1,h2,h3,h4⟩
 ·exact .inl h2
 ·exact .inr ⟨g,cap,cur,h1,h2,(hb.block g (Array.getElem?_eq_some_iff.1 h3).1 (by omega)).trans h3,h4⟩
theorem Mill.Dr.lt {R p k:Nat} {w w':World} (h:Mill.Dr R p k w w'):R < w'.heap.size:=by
 obtain ⟨p',_,_,hR⟩:=h.at_
 exact hR.lt
theorem Mill.Dr.grown {R p k B:Nat} {w w1 w2:World} {row:Option Nat} (h:Mill.Dr R p k w w1) (hg:w1.grownBy w2 row) (hrow:∀ j,row=some j→B≤j) (hB:R < B) (hw:w.heap.size≤B):Mill.Dr R p k w w2:=by
 obtain ⟨p',a1,a2,hR⟩:=h.at_
 have hlt:=hR.lt
 obtain ⟨v,n,h0,hn,hb⟩:=hR.box
 have hk:∀ i,i < w1.heap.size→i < B→w2.heap[i]? = w1.heap[i]?:=fun i hi hiB=>hg.block i hi (fun e=>by have:=hrow i e.symm;omega)
 refine ⟨⟨p',a1,a2,⟨v,n,(hk R hlt hB).trans h0,hn, ?_⟩⟩,h.but.os ▸ hg.os,h.but.tape ▸ hg.tape,h.but.output ▸ hg.output,Nat.le_trans h.but.size hg.size,fun i hi hiR=>(hk i (Nat.lt_of_lt_of_le hi h.but.size) (by omega)).trans (h.but.block i hi hiR)⟩
 rcases hb with e | ⟨b,off,cap,h1,h2,h3⟩
 ·exact .inl e
 ·refine .inr ⟨b,off,cap,h1,h2,fun i hi => ?_⟩
  obtain ⟨x,x0,x1,hx⟩:=h3 i hi
  refine ⟨x,x0,x1, ?_⟩
  have:=hk b (by omega) (by omega)
  simp only [World.cell?,this] at hx ⊢
  exact hx
theorem Mill.But.grown {R:Nat} {w w1 w2:World} {row:Option Nat} (h:Mill.But R w w1) (hg:w1.grownBy w2 row) (hrow:∀ j,row=some j→w.heap.size≤j):Mill.But R w w2 :=
 ⟨hg.os.trans h.os,hg.tape.trans h.tape,hg.output.trans h.output,Nat.le_trans h.size hg.size,fun k hk hR=>(hg.block k (Nat.lt_of_lt_of_le hk h.size) (fun e=>by have:=hrow k e.symm;omega)).trans (h.block k hk hR)⟩
theorem text_D {w w1:World} {R p k:Nat} (hD:Mill.Dr R p k w w1) (hp:p+k < 10000000000) :
  Calls Tryz.prog 25 #[.pointer (some ⟨R,0,none⟩)] w1 fun e w' => ∃ t:ByteArray,e = .returned (.string t)∧t.size≤8∧Mill.Dr R p (k+8) w w'∧Mill.But R w1 w':=by
 obtain ⟨i0,hi,hz0,hz1,hz2⟩:=info_parts Tryz.infoByte
 go_enter Tryz.func25,Tryz.ntmps25
 go_wp2_with (first
  | (go_at_call 8;refine (pick_D _ (by assumption) (by omega) (by omega) (by omega)).mono ?_;rintro e w2 ⟨v,rfl,hv,hD2,hB2⟩)
  | (go_at_call 48;refine (path_D (by assumption) (by omega)).mono ?_;rintro e w3 ⟨t,rfl,ht,hD3,hB3⟩))
 any_goals (go_ret;exact ⟨_,rfl,by decide,hD2.mono (by omega),hB2⟩)
 ·go_ret
  exact ⟨_,rfl,by omega,hD3.mono (by omega),hB2.trans hB3⟩
 ·have hRlt:=hD2.lt
  have hw2:=hD2.but.size
  have hsz2:=hB2.size
  go_loopw [4,5] (fun o i wr => ∃ (j:Nat) (acc:List UInt8),i = .int .i64 (j:Int)∧j≤v+1∧acc.length=j∧wr.ownsRow w2.heap.size 5 1 o acc.length (Lib.byteCells acc)∧Mill.Dr R p (k+2+j) w wr∧Mill.But R w2 wr) (fun _ i _=>v+1 - (intOf i).toNat)
  case atStart =>
   refine ⟨0,[],rfl,by omega,rfl, ?_,(hD2.alloc _).mono (by omega),(Mill.But.refl R w2).alloc _⟩
   exact World.ownsRow_made (base:=w2.heap.size) (e:=5) (size:=1) w2 #[] 0 (Nat.le_refl _) (by decide) rfl
  case round =>
   obtain ⟨j,acc,rfl,hj,hacc,hown,hDr,hBr⟩:=hrel
   have hszr:=hBr.size
   have hv5:v < 5:=by omega
   by_cases hjv:j≤v
   ·go_wp2_with (first
     | (go_at_call 8;refine (pick_D _ hDr (by omega) (by omega) (by omega)).mono ?_;rintro e w4 ⟨x,rfl,hx,hD4,hB4⟩;have own4:=Mill.own_but hown hRlt hB4;have hsz4:=hB4.size)
     | (at_builtin;refine wpList_append_own _ rfl _ _ 22 rfl w2.heap.size 5 i0 (.int .u8 0) 1 1 Tryz.underlying22 hi hz0 hz1 hz2 rfl (by decide) _ _ _ rfl (own4.alloc _) ⟨w4.heap.size,0,none⟩ 1 1 [.int .u8 (97+(x:Int))] rfl rfl (cell_one_new _ _ _) (fun x hx=>by simp at hx;subst hx;rfl) (by unfold maxLen;omega) (by omega) (by simp;omega) ?_;intro v' w5 hown' hg5 hnil5))
    have hD5:=(hD4.alloc (.cells #[.int .u8 (97+(x:Int))] 5)).grown (B:=w2.heap.size) hg5 (fun j hj=>(own4.lt _ hj).1) hRlt hw2
    have hB5:=((hBr.trans hB4).alloc (.cells #[.int .u8 (97+(x:Int))] 5)).grown hg5 (fun j hj=>(own4.lt _ hj).1)
    go_roundw
    case rel =>
     refine ⟨j+1,acc++[UInt8.ofNat (97+(x:Int)).toNat],by go_num,by omega,by simp [hacc], ?_,hD5.mono (by omega),hB5⟩
     rw [Mill.byteCells_snoc,Mill.ofNat_toNat _ (by omega) (by omega)];simpa using hown'
    case measure=>simp [intOf];omega
   ·have hcv:=Mill.conv_own (P:=Tryz.prog) (src:=22) (dst:=9) Tryz.underlying22 Tryz.underlying5 Tryz.underlying9 hown
    go_wp2
    go_ret
    exact ⟨⟨acc.toArray⟩,rfl,by show acc.toArray.size≤8;simp;omega,hDr.mono (by omega),Mill.But.trans ‹Mill.But R w1 _› (hB2.trans hBr)⟩
theorem Mill.conv_one (w:World) (c:Int) (h0:0≤c) (h1:c≤255):(convert 22 9 (.slice (some ⟨w.heap.size,0,none⟩) 1 1)).run Tryz.prog (w.alloc (.cells #[.int .u8 c] 5)) = .ok (.string ⟨#[UInt8.ofNat c.toNat]⟩) (w.alloc (.cells #[.int .u8 c] 5)):=by
 have h:(w.alloc (.cells #[.int .u8 c] 5)).ownsRow w.heap.size 5 1 (.slice (some ⟨w.heap.size,0,none⟩) 1 1) 1 [.int .u8 c]:=⟨rfl,.inr ⟨w.heap.size,1,#[.int .u8 c],rfl,Nat.le_refl _,World.alloc_heap_new w _,Nat.le_refl _,by decide,rfl,rfl⟩⟩
 exact Mill.conv_own (acc:=[UInt8.ofNat c.toNat]) Tryz.underlying22 Tryz.underlying5 Tryz.underlying9 (by
  simp only [Lib.byteCells,List.map_cons,List.map_nil,Mill.ofNat_toNat c h0 h1];exact h)
attribute [local go_sem] Oper.semAt_some
theorem Mill.max_bd (b:Int):0≤Mill.maxOf b∧Mill.maxOf b < 18446744073709551616:=by
 unfold Mill.maxOf Mill.maxBits Mill.bits
 repeat' split
 all_goals decide
theorem Mill.into_bd (t b:Int) : -9223372036854775808≤Val.into t b∧Val.into t b≤9223372036854775807:=by
 unfold Val.into Val.fold
 repeat' split
 all_goals first | omega | (simp_all;omega)
theorem Mill.wrap_bd (x:Int) : -9223372036854775808≤wrap64 x∧wrap64 x≤9223372036854775807:=by rw [Val.wrap_i];omega
theorem number_D {w w1:World} {R p k:Nat} (t:Int) (hD:Mill.Dr R p k w w1) (hp:p+k < 10000000000) :
  Calls Tryz.prog 23 #[.pointer (some ⟨R,0,none⟩),.int .i64 t] w1 fun e w' => ∃ n:Int,e = .returned (.int .i64 n) ∧ -9223372036854775808≤n∧n≤9223372036854775807∧Mill.Dr R p (k+4) w w'∧Mill.But R w1 w':=by
 have hm:=Mill.max_bd t
 go_enter Tryz.func23,Tryz.ntmps23
 go_wp2_with (first
  | (go_at_call 24;refine (l1Max_any _ _).mono ?_;rintro e _ ⟨rfl,rfl⟩)
  | (go_at_call 45;refine (Val.l4Into_any _ _ (by first | omega | (rw [Val.wrap_u];omega)) (by first | omega | (rw [Val.wrap_u];omega)) _).mono ?_;rintro e _ ⟨rfl,rfl⟩)
  | (go_at_call 8;refine (pick_D _ (by assumption) (by omega) (by omega) (by omega)).mono ?_;rintro e w2 ⟨v,rfl,hv,hD2,hB2⟩))
 all_goals try go_ret
 all_goals refine ⟨_,rfl, ?_, ?_,by first | exact hD2.mono (by omega),by first | assumption | exact Mill.But.trans (by assumption) (by assumption) | exact Mill.But.trans (by assumption) (Mill.But.trans (by assumption) (Mill.But.trans (by assumption) (by assumption)))⟩
 all_goals first | omega | exact (Mill.wrap_bd _).1 | exact (Mill.wrap_bd _).2 | exact (Mill.into_bd _ _).1 | exact (Mill.into_bd _ _).2
theorem Gn.own_keep {w w':World} {B e size n:Nat} {v:Value} {xs:List Value} (h:w.ownsRow B e size v n xs) (hk:∀ k,v.ownBlock=some k→B≤k→k < w.heap.size→w'.heap[k]? = w.heap[k]?):w'.ownsRow B e size v n xs:=by
 obtain ⟨h1,h2⟩:=h
 refine ⟨h1, ?_⟩
 rcases h2 with h2 | ⟨g,cap,cur,rfl,hB,hg,r⟩
 ·exact .inl h2
 ·exact .inr ⟨g,cap,cur,rfl,hB,(hk g rfl hB (Array.getElem?_eq_some_iff.1 hg).1).trans hg,r⟩
theorem Gn.row_type {w:World} {B e size n:Nat} {v:Value} {xs:List Value} (h:w.ownsRow B e size v n xs) {k:Nat} (hk:v.ownBlock=some k):(B≤k∧k < w.heap.size)∧∃ cur,w.heap[k]? = some (.cells cur e):=by
 rcases h.2 with ⟨rfl,h0⟩ | ⟨g,cap,cur,rfl,hb,hg,_⟩
 ·simp [Value.ownBlock] at hk
 ·have:g=k:=by simpa [Value.ownBlock] using hk
  subst this
  exact ⟨⟨hb,(Array.getElem?_eq_some_iff.1 hg).1⟩,cur,hg⟩
theorem Gn.own_mono {w:World} {A B e size n:Nat} {v:Value} {xs:List Value} (h:w.ownsRow B e size v n xs) (hA:A≤B):w.ownsRow A e size v n xs:=by
 obtain ⟨h1,h2⟩:=h
 refine ⟨h1, ?_⟩
 rcases h2 with h2 | ⟨g,cap,cur,rfl,hB,r⟩
 ·exact .inl h2
 ·exact .inr ⟨g,cap,cur,rfl,Nat.le_trans hA hB,r⟩
theorem Gn.rowLen {w:World} {B e size n:Nat} {v:Value} {xs:List Value} (h:w.ownsRow B e size v n xs):∃ a cap,v = .slice a n cap:=by
 rcases h.2 with ⟨rfl,h0⟩ | ⟨g,cap,cur,rfl,_⟩
 ·exact ⟨none,0,by rw [h0]⟩
 ·exact ⟨_,_,rfl⟩
theorem Gn.own_cells {w:World} {B e size n:Nat} {v:Value} {xs:List Value} (h:w.ownsRow B e size v n xs) {g:Nat} (hg:v.ownBlock=some g) (j:Nat) (u:Value) (hu:xs[j]? = some u):w.cell? ⟨g,j,none⟩=some u:=by
 rcases h.2 with ⟨rfl,h0⟩ | ⟨g',cap,cur,rfl,hb,hgg,h1,h2,h3,h4⟩
 ·simp [Value.ownBlock] at hg
 ·have:g'=g:=by simpa [Value.ownBlock] using hg
  subst this
  have hj:j < xs.length:=(List.getElem?_eq_some_iff.1 hu).1
  rw [← h4,List.getElem?_take_of_lt (by rw [h.1] at hj;exact hj)] at hu
  simpa [World.cell?,hgg] using hu
def Gn.Src (w:World) (ao:Option Addr) (m:Nat) (news:List Value):Prop:=0 < m→∃ ad,ao=some ad∧∀ j u,news[j]? = some u→w.cell? (ad.add j)=some u
theorem Gn.add_at (g j:Nat):(⟨g,0,none⟩:Addr).add j=⟨g,j,none⟩:=by unfold Addr.add;split <;> simp_all
theorem Gn.own_src {w:World} {B e size n:Nat} {a:Option Addr} {c:Nat} {xs:List Value} (h:w.ownsRow B e size (.slice a n c) n xs):Gn.Src w a n xs:=fun h0=>by
 rcases h.2 with ⟨he,h0'⟩ | ⟨g,cap,cur,he,_⟩
 ·injection he with e1 e2 e3;omega
 ·injection he with e1 e2 e3
  subst e1;subst e3
  refine ⟨⟨g,0,none⟩,rfl,fun j u hj => ?_⟩
  rw [Gn.add_at]
  exact Gn.own_cells h rfl j u hj
theorem Gn.run_append_zero {P:Program} {w:World} (base:Nat) (t ty e:TypeId) (i:TypeInfo) (size:Nat) (ht:P.underlying t=some (.slice e)) (hi:P.info? e=some i) (v:Value) (n:Nat) (xs:List Value) (hown:w.ownsRow base e size v n xs) (ao:Option Addr) (c:Nat) :
  (Builtin.append_ #[t,t] ty #[v,.slice ao 0 c]).run P w = .ok v w:=by
 rcases hown.2 with ⟨rfl,rfl⟩ | ⟨g,cap,cur,rfl,_,_,hnc,_⟩
 ·cases ao <;> simp [Builtin.append_,run_underlying ht,sizeOf,typeInfo,hi,Builtin.lenOf,Builtin.firstCells,loadCells,loadCellsFrom]
 ·cases ao <;> simp [Builtin.append_,run_underlying ht,sizeOf,typeInfo,hi,Builtin.lenOf,Builtin.firstCells,hnc,storeCells,loadCells,loadCellsFrom]
theorem Gn.run_append_any {P:Program} {w:World} (base:Nat) (t ty e:TypeId) (i:TypeInfo) (z:Value) (size bytes:Nat) (ht:P.underlying t=some (.slice e)) (hi:P.info? e=some i) (hz:i.zero=some z) (hsize:i.size=size) (hby:i.bytes=bytes) (hzs:z.cells.size=size) (hs0:0 < size)
  (v:Value) (n:Nat) (xs:List Value) (hown:w.ownsRow base e size v n xs) (ao:Option Addr) (m c:Nat) (news:List Value) (hlen:news.length=m * size) (hsrc:Gn.Src w ao m news) (h1c:∀ u ∈ news,u.oneCell'=true) (b1:n+m≤maxLen) (b2:(n+m) * bytes≤140737488355328) (hbase:base≤w.heap.size) :
  ∃ v' w',(Builtin.append_ #[t,t] ty #[v,.slice ao m c]).run P w = .ok v' w'∧w'.ownsRow base e size v' (n+m) (xs++news)∧w.grownBy w' v.ownBlock:=by
 by_cases h0:m=0
 ·subst h0
  have hn:news=[]:=List.eq_nil_of_length_eq_zero (by omega)
  subst hn
  refine ⟨v,w,Gn.run_append_zero base t ty e i size ht hi v n _ hown ao c, ?_,⟨rfl,rfl,rfl,Nat.le_refl _,fun _ _ _=>rfl⟩⟩
  simpa using hown
 ·obtain ⟨ad,rfl,hc⟩:=hsrc (by omega)
  obtain ⟨v',w',h1,h2,h3,_⟩:=run_append_own_at (P:=P) (w:=w) base t ty e i z size bytes ht hi hz hsize hby hzs hs0 v n xs hown ad m c news hlen hc h1c b1 b2 hbase
  exact ⟨v',w',h1,h2,h3⟩
theorem Gn.wp_append_any {P:Program} {w:World} {ops:Array Oper} {rest:List Oper} {o:Oper} {a:Act} {Q:Exit→Act→World→Prop} (hgd:o.guard=none) (s x:Operand) (t:TypeId)
  (ho:o.op = .call { callee:=.builtin .append,args := #[s,x],argTypes := #[t,t] }) (base:Nat) (e:TypeId) (i:TypeInfo) (z:Value) (size bytes:Nat) (ht:P.underlying t=some (.slice e)) (hi:P.info? e=some i) (hz:i.zero=some z) (hsize:i.size=size) (hby:i.bytes=bytes) (hzs:z.cells.size=size) (hs0:0 < size)
  (v:Value) (n:Nat) (xs:List Value) (hs:a.eval s=v) (hown:w.ownsRow base e size v n xs) (ao:Option Addr) (m c:Nat) (hx:a.eval x = .slice ao m c) (news:List Value) (hlen:news.length=m * size) (hsrc:Gn.Src w ao m news) (h1c:∀ u ∈ news,u.oneCell'=true) (b1:n+m≤maxLen) (b2:(n+m) * bytes≤140737488355328) (hbase:base≤w.heap.size)
  (h:∀ v' w',w'.ownsRow base e size v' (n+m) (xs++news)→w.grownBy w' v.ownBlock→wpList P ops Q rest (a.put o.dst v') w') :
  wpList P ops Q (o::rest) a w:=by
 refine wpList_plain hgd fun K hK => ?_
 obtain ⟨v',w',hr,h2,h3⟩:=Gn.run_append_any (P:=P) (w:=w) base t o.type e i z size bytes ht hi hz hsize hby hzs hs0 v n xs hown ao m c news hlen hsrc h1c b1 b2 hbase
 unfold Oper.wp execOp
 simp only [ho,resolve,invoke,builtin,Sem.run_bind,Sem.run_pure,Result.andThen_ok,List.map_toArray,List.map_cons,List.map_nil,hs,hx,hr]
 exact hK _ _ (h v' w' h2 h3)
def Gn.plain (w:World) (k:Nat):Prop := ∀ cur t fr,w.heap[k]? = some (.cells cur t fr)→t≠44∧t≠121
structure Gn.Fr (B:Nat) (w w':World):Prop where
 os:w'.os=w.os
 tape:w'.tape=w.tape
 output:w'.output=w.output
 size:w.heap.size≤w'.heap.size
 keep:∀ k,k < w.heap.size→k < B∨Gn.plain w k→w'.heap[k]? = w.heap[k]?
theorem Gn.Fr.refl (B:Nat) (w:World):Gn.Fr B w w:=⟨rfl,rfl,rfl,Nat.le_refl _,fun _ _ _=>rfl⟩
theorem Gn.Fr.trans {B:Nat} {a b c:World} (h:Gn.Fr B a b) (k:Gn.Fr B b c):Gn.Fr B a c :=
 ⟨k.os.trans h.os,k.tape.trans h.tape,k.output.trans h.output,Nat.le_trans h.size k.size,fun i hi hp=>by
  have e:=h.keep i hi hp
  refine (k.keep i (Nat.lt_of_lt_of_le hi h.size) (hp.imp id (fun hq cur t fr hc=>hq cur t fr (e ▸ hc)))).trans e⟩
theorem Gn.Fr.of_below {B:Nat} {w w':World} (h:Below w.heap.size w w'):Gn.Fr B w w':=⟨h.os,h.tape,h.output,h.size,fun k hk _=>h.block k hk⟩
theorem Gn.Fr.alloc {B:Nat} {w w':World} (h:Gn.Fr B w w') (o:Obj):Gn.Fr B w (w'.alloc o):=h.trans (Gn.Fr.of_below ((Below.refl _ w').alloc (Nat.le_refl _) o))
theorem Gn.Fr.drew {B:Nat} {w w':World} (h:Gn.Fr B w w'):Gn.Fr B w w'.drew:=⟨h.os,h.tape,h.output,h.size,h.keep⟩
theorem Gn.Fr.row {B A:Nat} {w w':World} (h:Gn.Fr B w w') {e size n:Nat} {v:Value} {xs:List Value} (hr:w.ownsRow A e size v n xs) (he:e≠44∧e≠121):w'.ownsRow A e size v n xs :=
 Gn.own_keep hr (fun k hk _ hl=>h.keep k hl (.inr (fun cur t fr hc=>by obtain ⟨c2,h2⟩:=(Gn.row_type hr hk).2;rw [h2] at hc;injection hc with hc;injection hc with _ hc _;rw [← hc];exact he)))
def Gn.Row (A:Nat) (w:World) (v:Value) (K:Nat):Prop := ∃ l:List Mill.Nd,l.length≤K∧(∀ d ∈ l,d.text.size≤100)∧w.ownsRow A 106 6 v l.length (Mill.ndCs l)
theorem Gn.Row.fr {A B:Nat} {w w':World} {v:Value} {K:Nat} (h:Gn.Row A w v K) (hf:Gn.Fr B w w'):Gn.Row A w' v K:=by
 obtain ⟨l,h1,h2,h3⟩:=h
 exact ⟨l,h1,h2,hf.row h3 (by decide)⟩
theorem Gn.Row.mono {A A':Nat} {w:World} {v:Value} {K K':Nat} (h:Gn.Row A w v K) (hA:A'≤A) (hK:K≤K'):Gn.Row A' w v K':=by
 obtain ⟨l,h1,h2,h3⟩:=h
 exact ⟨l,by omega,h2,Gn.own_mono h3 hA⟩
structure Gn.Sg where
 name:ByteArray
 pv:Value
 params:List Int
 result:Int
def Gn.sgC (s:Gn.Sg):List Value:=[.string s.name,s.pv,.int .i64 s.result]
def Gn.sgCs (l:List Gn.Sg):List Value:=l.flatMap Gn.sgC
def Gn.nmC (x:ByteArray × Int):List Value:=[.string x.1,.int .i64 x.2]
def Gn.nmCs (l:List (ByteArray × Int)):List Value:=l.flatMap Gn.nmC
def Gn.intCs (l:List Int):List Value:=l.map (Value.int .i64)
def Gn.ty (t:Int):Prop:=0≤t∧t≤10
structure Gn.Fns (B:Nat) (w:World) (fv:Value) (F:List Gn.Sg):Prop where
 row:w.ownsRow B 124 3 fv F.length (Gn.sgCs F)
 par:∀ s ∈ F,w.ownsRow B 3 1 s.pv s.params.length (Gn.intCs s.params)
 bd:F.length≤5∧∀ s ∈ F,s.name.size≤30∧s.params.length≤3∧Gn.ty s.result∧∀ t ∈ s.params,Gn.ty t
theorem Gn.Fns.fr {B:Nat} {w w':World} {fv:Value} {F:List Gn.Sg} (h:Gn.Fns B w fv F) (hf:Gn.Fr B w w'):Gn.Fns B w' fv F:=⟨hf.row h.row (by decide),fun s hs=>hf.row (h.par s hs) (by decide),h.bd⟩
structure Gn.St (B g R P:Nat) (w:World) (nv:Value) (nl:List (ByteArray × Int)) (fv:Value) (F:List Gn.Sg) (ret loops count size:Int):Prop where
 lo:B≤R∧R < g
 rd:∃ p,p≤P∧Mill.Rd w R p
 box:w.heap[g]? = some (.cells #[.pointer (some ⟨R,0,none⟩),nv,fv,.int .i64 ret,.int .i64 loops,.int .i64 count,.int .i64 size] 121)
 names:w.ownsRow g 140 2 nv nl.length (Gn.nmCs nl)
 nbd:nl.length≤P∧∀ x ∈ nl,x.1.size≤30∧Gn.ty x.2
 fns:Gn.Fns B w fv F
 bd:Gn.ty ret∧(0≤loops∧loops≤P)∧(0≤count∧count≤P)∧(-(P:Int)≤size∧size≤P)
theorem Gn.St.mono {B g R P P':Nat} {w:World} {nv:Value} {nl:List (ByteArray × Int)} {fv:Value} {F:List Gn.Sg} {ret loops count size:Int} (h:Gn.St B g R P w nv nl fv F ret loops count size) (hP:P≤P'):Gn.St B g R P' w nv nl fv F ret loops count size:=by
 obtain ⟨p,hp,hr⟩:=h.rd
 obtain ⟨b1,b2,b3,b4⟩:=h.bd
 exact ⟨h.lo,⟨p,by omega,hr⟩,h.box,h.names,⟨by have:=h.nbd.1;omega,h.nbd.2⟩,h.fns,b1,by omega,by omega,by omega⟩
theorem Gn.St.below {B g R P:Nat} {w w':World} {nv:Value} {nl:List (ByteArray × Int)} {fv:Value} {F:List Gn.Sg} {ret loops count size:Int} (h:Gn.St B g R P w nv nl fv F ret loops count size) (hb:Below w.heap.size w w'):Gn.St B g R P w' nv nl fv F ret loops count size:=by
 obtain ⟨p,hp,hr⟩:=h.rd
 exact ⟨h.lo,⟨p,hp,hr.below hb⟩,(hb.block g (Array.getElem?_eq_some_iff.1 h.box).1).trans h.box,Gn.own_keep h.names (fun k _ _ hl=>hb.block k hl),h.nbd,h.fns.fr (Gn.Fr.of_below hb),h.bd⟩
theorem Gn.Rd_type {w:World} {R p:Nat} (h:Mill.Rd w R p):∃ cur,w.heap[R]? = some (.cells cur 44):=by
 obtain ⟨v,n,hb,_⟩:=h.box
 exact ⟨_,hb⟩
theorem Gn.St.but {B g R P P':Nat} {w w':World} {nv:Value} {nl:List (ByteArray × Int)} {fv:Value} {F:List Gn.Sg} {ret loops count size:Int} (h:Gn.St B g R P w nv nl fv F ret loops count size) (hr:∃ p,p≤P'∧Mill.Rd w' R p) (hP:P≤P') (hb:Mill.But R w w'):Gn.St B g R P' w' nv nl fv F ret loops count size∧Gn.Fr B w w':=by
 obtain ⟨p0,_,hr0⟩:=h.rd
 obtain ⟨cur,hR⟩:=Gn.Rd_type hr0
 have hlo:=h.lo
 have hf:Gn.Fr B w w':=⟨hb.os,hb.tape,hb.output,hb.size,fun k hk hp=>hb.block k hk (fun e=>by
  subst e
  rcases hp with hp | hp
  ·omega
  ·exact (hp _ _ _ hR).1 rfl)⟩
 have h2:=(h.mono hP)
 refine ⟨⟨h.lo,hr,(hb.block g (Array.getElem?_eq_some_iff.1 h.box).1 (by omega)).trans h.box,Gn.own_keep h.names (fun k hk _ hl=>hb.block k hl (fun e=>by
  subst e
  obtain ⟨c2,hc⟩:=(Gn.row_type h.names hk).2
  rw [hR] at hc;injection hc with hc;injection hc with _ hc _;exact absurd hc (by decide))),h2.nbd,h.fns.fr hf,h2.bd⟩,hf⟩
theorem Gn.infoNode : (Tryz.prog.info? 106).map (fun i=>(i.zero,i.size,i.bytes))=some (some (.agg #[.int .i64 0,.int .i64 0,.int .i64 0,.int .i64 0,.string ⟨#[]⟩,.int .i64 0]),6,56):=by kernel_rfl
theorem Gn.Src.below {w w':World} {ao:Option Addr} {m:Nat} {news:List Value} (h:Gn.Src w ao m news) (hb:Below w.heap.size w w'):Gn.Src w' ao m news:=fun h0=>by
 obtain ⟨ad,e,hc⟩:=h h0
 refine ⟨ad,e,fun j u hj => ?_⟩
 have:=hc j u hj
 rw [hb.cell (World.block_lt_of_cell? w _ this)]
 exact this
theorem Gn.nd_one (l:List Mill.Nd):∀ u ∈ Mill.ndCs l,u.oneCell'=true:=fun u hu=>by
 obtain ⟨d,_,hd⟩:=List.mem_flatMap.1 hu
 unfold Mill.ndC at hd
 simp at hd
 rcases hd with rfl | rfl | rfl | rfl | rfl | rfl <;> rfl
theorem Gn.nd_len (l:List Mill.Nd):(Mill.ndCs l).length=l.length * 6:=by
 unfold Mill.ndCs
 induction l with
 | nil=>rfl
 | cons d l ih=>simp [List.flatMap_cons,ih,Mill.ndC];omega
def Gn.Parts (w:World) (pa:Option Addr) (L:List (List Mill.Nd)):Prop := ∀ i (hi:i < L.length),∃ b a c,pa=some ⟨b,0,none⟩∧w.cell? ⟨b,i,none⟩=some (.slice a L[i].length c)∧Gn.Src w a L[i].length (Mill.ndCs L[i])
theorem Gn.Parts.below {w w':World} {pa:Option Addr} {L:List (List Mill.Nd)} (h:Gn.Parts w pa L) (hb:Below w.heap.size w w'):Gn.Parts w' pa L:=fun i hi=>by
 obtain ⟨b,a,c,h1,h2,h3⟩:=h i hi
 exact ⟨b,a,c,h1,(hb.cell (p:=⟨b,i,none⟩) (World.block_lt_of_cell? w _ h2)).trans h2,h3.below hb⟩
def Gn.sum (L:List (List Mill.Nd)):Nat:=L.flatten.length
theorem Gn.over_any (d:Mill.Nd) (L:List (List Mill.Nd)) (pa:Option Addr) (pc:Nat) (w:World) (hp:Gn.Parts w pa L) (hL:L.length≤1000) (hn:Gn.sum L≤1000000000) :
  Calls Tryz.prog 77 #[Mill.ndV d,.slice pa L.length pc] w fun e w' => ∃ a c,e = .returned (.slice a (Gn.sum L+1) c)∧w'.ownsRow w.heap.size 106 6 (.slice a (Gn.sum L+1) c) (Gn.sum L+1) (Mill.ndCs (L.flatten++[{ d with kids:=(L.length:Int) }]))∧Below w.heap.size w w':=by
 obtain ⟨i0,hi0,hz0,hz1,hz2⟩:=info_parts Gn.infoNode
 unfold Mill.ndV
 have HP:Hid (∀ U,Below w.heap.size w U→Gn.Parts U pa L):=fun U hU=>hp.below hU
 clear hp
 obtain ⟨m,HM⟩:∃ m,Hid (L.length=m):=⟨_,(rfl:L.length=_)⟩
 rw [HM.out] at hL ⊢
 have HA:Hid (∀ U,Below w.heap.size w U→∀ j (hj:j < m),∃ b a n c,pa=some ⟨b,0,none⟩∧U.cell? ⟨b,j,none⟩=some (.slice a n c)∧∃ l,L[j]? = some l∧l.length=n∧Gn.Src U a n (Mill.ndCs l)):=fun U hU j hj=>by
  obtain ⟨b,a,c,h1,h2,h3⟩:=HP.out U hU j (by rw [HM.out];exact hj)
  exact ⟨b,a,_,c,h1,h2,L[j]'(by rw [HM.out];exact hj),by simp,rfl,h3⟩
 go_enter Tryz.func77,Tryz.ntmps77
 go_wp2_with fail
 obtain ⟨W0,hW0⟩:∃ V,w.alloc (.cells #[.int .i64 d.kind,.int .i64 d.op,.int .i64 d.type,.int .i64 d.n,.string d.text,.int .i64 d.kids] 106)=V:=⟨_,rfl⟩
 have hs0:W0.heap.size=w.heap.size+1:=by rw [← hW0];simp
 have hb0:Below w.heap.size w W0:=by rw [← hW0];exact (Below.refl _ w).alloc (Nat.le_refl _) _
 have hx0:W0.heap[w.heap.size]? = some (.cells #[.int .i64 d.kind,.int .i64 d.op,.int .i64 d.type,.int .i64 d.n,.string d.text,.int .i64 d.kids] 106):=by rw [← hW0];exact World.alloc_heap_new w _
 rw [hW0]
 clear hW0
 go_loopw [5,6] (fun o t wr => ∃ j,j≤m∧t = .int .i64 (j:Int)∧wr.ownsRow (w.heap.size+1) 106 6 o (Gn.sum (L.take j)) (Mill.ndCs (L.take j).flatten)∧wr.heap[w.heap.size]? = some (.cells #[.int .i64 d.kind,.int .i64 d.op,.int .i64 d.type,.int .i64 d.n,.string d.text,.int .i64 d.kids] 106)∧Below w.heap.size w wr∧w.heap.size+1≤wr.heap.size) (fun _ t _=>m - (intOf t).toNat)
 case atStart =>
  refine ⟨0,by omega,rfl, ?_, ?_,hb0.alloc (by omega) _,by simp;omega⟩
  ·have:=World.ownsRow_made (base:=w.heap.size+1) (e:=106) (size:=6) W0 #[] 0 (by omega) (by decide) rfl
   simpa [Gn.sum,Mill.ndCs,hs0] using this
  ·rw [((Below.refl W0.heap.size W0).alloc (Nat.le_refl _) _).block w.heap.size (by omega)];exact hx0
 case round =>
  obtain ⟨j,hj,rfl,hown,hbx,hbw,hzw⟩:=hrel
  obtain ⟨oa,oc,rfl⟩:=Gn.rowLen hown
  have hsm:Gn.sum (L.take j)≤Gn.sum L:=by
   unfold Gn.sum
   have e:=congrArg List.length (congrArg List.flatten (List.take_append_drop j L))
   rw [List.flatten_append,List.length_append] at e
   omega
  by_cases hlt:j < m
  ·have hltI:(j:Int) < (m:Int):=by omega
   obtain ⟨b,a,n,c,rfl,hcell,l,hl,hln,hsrc⟩:=HA.out wr hbw j hlt
   have hjl:j < L.length:=by rw [HM.out];exact hlt
   have hLj:L[j]=l:=by rw [List.getElem?_eq_getElem hjl] at hl;exact Option.some.inj hl
   have htk:(L.take (j+1)).flatten=(L.take j).flatten++l:=by rw [List.take_add_one,List.getElem?_eq_getElem hjl,hLj];simp
   have hsn:Gn.sum (L.take (j+1))=Gn.sum (L.take j)+n:=by unfold Gn.sum;rw [htk,List.length_append,hln]
   have hsm2:Gn.sum (L.take (j+1))≤Gn.sum L:=by
    unfold Gn.sum
    have e:=congrArg List.length (congrArg List.flatten (List.take_append_drop (j+1) L))
    rw [List.flatten_append,List.length_append] at e
    omega
   have HOW:Hid (wr.ownsRow (w.heap.size+1) 106 6 (.slice oa (Gn.sum (L.take j)) oc) (Gn.sum (L.take j)) (Mill.ndCs (L.take j).flatten)):=hown
   have HTK:Hid ((L.take (j+1)).flatten=(L.take j).flatten++l):=htk
   have HSN:Hid (Gn.sum (L.take (j+1))=Gn.sum (L.take j)+n∧Gn.sum (L.take (j+1))≤Gn.sum L):=⟨hsn,hsm2⟩
   have HLN:Hid (l.length=n):=hln
   clear hown htk hsn hsm2 hl hLj hln
   obtain ⟨q,HQ⟩:∃ q,Hid (Gn.sum (L.take j)=q):=⟨_,(rfl:_=_)⟩
   rw [HQ.out] at HOW HSN hsm ⊢
   go_wp2_with (first | (at_builtin;(refine Gn.wp_append_any rfl _ _ 71 rfl (w.heap.size+1) 106 i0 (.agg #[.int .i64 0,.int .i64 0,.int .i64 0,.int .i64 0,.string ⟨#[]⟩,.int .i64 0]) 6 56 Tryz.underlying71 hi0 hz0 hz1 hz2 rfl (by decide) _ _ _ rfl HOW.out a n c rfl (Mill.ndCs l) (by rw [Gn.nd_len,HLN.out]) hsrc (Gn.nd_one l) (by have:=HSN.out;unfold maxLen;omega) (by have:=HSN.out;omega) hzw ?_;intro v5 w5 hown5 hg5)))
   have hlo:∀ k,(Value.slice oa q oc).ownBlock=some k→w.heap.size+1≤k:=fun k hk=>(Gn.row_type HOW.out hk).1.1
   have hb5:Below w.heap.size w w5:=hbw.trans ⟨hg5.os,hg5.tape,hg5.output,hg5.size,fun k hk=>hg5.block k (by omega) (fun e=>by have:=hlo k e.symm;omega)⟩
   have hx5:=(hg5.block w.heap.size (by omega) (fun e=>by have:=hlo _ e.symm;omega)).trans hbx
   have hz5:=hg5.size
   go_roundw
   case rel=>exact ⟨j+1,by omega,by go_num,by rw [HSN.out.1,HTK.out,Mill.ndCs,List.flatMap_append];exact hown5,hx5,hb5,by omega⟩
   case measure=>simp [intOf];omega
  ·have hltI:¬ (j:Int) < (m:Int):=by omega
   have hjm:j=m:=by omega
   subst hjm
   have htk:L.take j=L:=List.take_of_length_le (by rw [HM.out];exact Nat.le_refl _)
   rw [htk] at hown hsm ⊢
   have HOW:Hid (wr.ownsRow (w.heap.size+1) 106 6 (.slice oa (Gn.sum L) oc) (Gn.sum L) (Mill.ndCs L.flatten)):=hown
   clear hown hsm htk
   have c5:wr.cell? ⟨w.heap.size,5,none⟩=some (.int .i64 d.kids):=by rw [Lib.cell_of_heap hbx];rfl
   have f5:wr.frozen? ⟨w.heap.size,5,none⟩=false:=by simp [World.frozen?,hbx]
   obtain ⟨V,hV⟩:∃ V,wr.setCell ⟨w.heap.size,5,none⟩ (.int .i64 (j:Int))=V:=⟨_,rfl⟩
   have hVx:V.heap[w.heap.size]? = some (.cells #[.int .i64 d.kind,.int .i64 d.op,.int .i64 d.type,.int .i64 d.n,.string d.text,.int .i64 (j:Int)] 106):=by rw [← hV];simp [World.setCell,Array.getElem?_modify,hbx]
   have hVo:∀ k,k≠w.heap.size→V.heap[k]? = wr.heap[k]?:=fun k hk=>by rw [← hV];exact Below.heap_setCell _ _ _ _ hk
   have hVs:V.heap.size=wr.heap.size:=by rw [← hV];simp [World.setCell]
   have hVb:Below w.heap.size w V:=by rw [← hV];exact hbw.setCell (p:=⟨w.heap.size,5,none⟩) (Nat.le_refl _) _
   have HOV:Hid (V.ownsRow (w.heap.size+1) 106 6 (.slice oa (Gn.sum L) oc) (Gn.sum L) (Mill.ndCs L.flatten)):=Gn.own_keep HOW.out (fun k _ hk _=>hVo k (by omega))
   have m0:∀ k u,(#[.int .i64 d.kind,.int .i64 d.op,.int .i64 d.type,.int .i64 d.n,.string d.text,.int .i64 (j:Int)]:Array Value)[k]? = some u→V.cell? ⟨w.heap.size,k,none⟩=some u:=fun k u hk=>by rw [Lib.cell_of_heap hVx];exact hk
   have c0:=m0 0 _ rfl
   have c1:=m0 1 _ rfl
   have c2:=m0 2 _ rfl
   have c3:=m0 3 _ rfl
   have c4:=m0 4 _ rfl
   have c6:=m0 5 _ rfl
   clear m0 hbx
   obtain ⟨q,HQ⟩:∃ q,Hid (Gn.sum L=q):=⟨_,(rfl:_=_)⟩
   rw [HQ.out] at HOV hn ⊢
   obtain ⟨V2,hV2⟩:∃ X,V.alloc (.cells #[.int .i64 d.kind,.int .i64 d.op,.int .i64 d.type,.int .i64 d.n,.string d.text,.int .i64 (j:Int)] 106)=X:=⟨_,rfl⟩
   have hs2:V2.heap.size=wr.heap.size+1:=by rw [← hV2];simp [hVs]
   have hb2:Below V.heap.size V V2:=by rw [← hV2];exact (Below.refl _ V).alloc (Nat.le_refl _) _
   have HO2:Hid (V2.ownsRow (w.heap.size+1) 106 6 (.slice oa q oc) q (Mill.ndCs L.flatten)):=Gn.own_keep HOV.out (fun k _ _ hl=>hb2.block k hl)
   have hsrc:Gn.Src V2 (some ⟨wr.heap.size,0,none⟩) 1 (Mill.ndC { d with kids:=(j:Int) }):=fun _=>⟨_,rfl,fun k u hk=>by
    rw [Gn.add_at,← hV2,← hVs,Lib.cell_of_heap (World.alloc_heap_new V _)]
    simpa [Mill.ndC] using hk⟩
   go_wp2_with (first | (at_builtin;(refine Gn.wp_append_any rfl _ _ 71 rfl (w.heap.size+1) 106 i0 (.agg #[.int .i64 0,.int .i64 0,.int .i64 0,.int .i64 0,.string ⟨#[]⟩,.int .i64 0]) 6 56 Tryz.underlying71 hi0 hz0 hz1 hz2 rfl (by decide) _ _ _ rfl HO2.out (some ⟨wr.heap.size,0,none⟩) 1 1 rfl (Mill.ndC { d with kids:=(j:Int) }) rfl hsrc (fun u hu=>Gn.nd_one [{ d with kids:=(j:Int) }] u (by simpa [Mill.ndCs] using hu)) (by unfold maxLen;omega) (by omega) (by omega) ?_;intro v5 w5 hown5 hg5)))
   have hlo:∀ k,(Value.slice oa q oc).ownBlock=some k→w.heap.size+1≤k:=fun k hk=>(Gn.row_type HO2.out hk).1.1
   have hb5:Below w.heap.size w w5:=(hVb.trans (hb2.mono (by omega))).trans ⟨hg5.os,hg5.tape,hg5.output,hg5.size,fun k hk=>hg5.block k (by omega) (fun e=>by have:=hlo k e.symm;omega)⟩
   obtain ⟨a5,k5,rfl⟩:=Gn.rowLen hown5
   go_ret
   refine ⟨a5,k5,by rw [HQ.out];rfl, ?_,hb5⟩
   rw [HQ.out]
   have:=Gn.own_mono hown5 (show w.heap.size≤w.heap.size+1 by omega)
   simpa [Mill.ndCs,List.flatMap_append] using this
theorem Gn.no_text : (⟨#[]⟩:ByteArray).size≤100:=by decide
theorem Gn.rows_list {w:World} {K:Nat}:∀ (vs:List Value),(∀ v ∈ vs,∃ A,Gn.Row A w v K)→∃ L:List (List Mill.Nd),L.length=vs.length∧L.flatten.length≤vs.length * K∧(∀ d ∈ L.flatten,d.text.size≤100)∧∀ i (hi:i < L.length),∃ a c,vs[i]? = some (.slice a L[i].length c)∧Gn.Src w a L[i].length (Mill.ndCs L[i])
 | [],_=>⟨[],rfl,by simp,by simp,fun i hi=>by simp at hi⟩
 | v::vs,h=>by
  obtain ⟨L,h1,h2,h3,h4⟩:=Gn.rows_list vs (fun u hu=>h u (List.mem_cons_of_mem _ hu))
  obtain ⟨A,l,k1,k2,k3⟩:=h v (by simp)
  obtain ⟨a,c,rfl⟩:=Gn.rowLen k3
  refine ⟨l::L,by simp [h1], ?_, ?_,fun i hi => ?_⟩
  ·simp only [List.flatten_cons,List.length_append,List.length_cons,Nat.add_mul];omega
  ·intro d hd
   simp only [List.flatten_cons,List.mem_append] at hd
   rcases hd with hd | hd
   ·exact k2 d hd
   ·exact h3 d hd
  ·cases i with
   | zero=>exact ⟨a,c,rfl,Gn.own_src k3⟩
   | succ i=>exact h4 i (by simpa using hi)
theorem Gn.over_of (d:Mill.Nd) (hd:d.text.size≤100) (vs:List Value) (K:Nat) (pa:Option Addr) (pc:Nat) (w:World) (hc:∀ i v,vs[i]? = some v→∃ b,pa=some ⟨b,0,none⟩∧w.cell? ⟨b,i,none⟩=some v) (hr:∀ v ∈ vs,∃ A,Gn.Row A w v K) (hl:vs.length≤100) (hK:vs.length * K≤1000000000) :
  Calls Tryz.prog 77 #[Mill.ndV d,.slice pa vs.length pc] w fun e w' => ∃ a n c,e = .returned (.slice a n c)∧Gn.Row w.heap.size w' (.slice a n c) (vs.length * K+1)∧Below w.heap.size w w':=by
 obtain ⟨L,h1,h2,h3,h4⟩:=Gn.rows_list vs hr
 rw [← h1]
 refine (Gn.over_any d L pa pc w (fun i hi => ?_) (by omega) (by unfold Gn.sum;omega)).mono ?_
 ·obtain ⟨a,c,k1,k2⟩:=h4 i hi
  obtain ⟨b,k3,k4⟩:=hc i _ k1
  exact ⟨b,a,c,k3,k4,k2⟩
 ·rintro e w' ⟨a,c,rfl,ho,hb⟩
  refine ⟨a,_,c,rfl,⟨L.flatten++[{ d with kids:=(L.length:Int) }], ?_, ?_, ?_⟩,hb⟩
  ·rw [h1];simp only [List.length_append,List.length_cons,List.length_nil];omega
  ·intro x hx
   simp only [List.mem_append,List.mem_singleton] at hx
   rcases hx with hx | rfl
   ·exact h3 x hx
   ·exact hd
  ·have e:(L.flatten++[{ d with kids:=(L.length:Int) }]).length=Gn.sum L+1:=by simp [Gn.sum]
   rw [e];exact ho
theorem Gn.new_row (w:World) (B:Nat) (hB:B≤w.heap.size) (l:List Mill.Nd) (hl:l.length≤1000):(w.alloc (.cells (Mill.ndCs l).toArray 106)).ownsRow B 106 6 (.slice (some ⟨w.heap.size,0,none⟩) l.length l.length) l.length (Mill.ndCs l):=by
 refine ⟨Gn.nd_len l,.inr ⟨w.heap.size,l.length,(Mill.ndCs l).toArray,rfl,hB,World.alloc_heap_new w _,Nat.le_refl _,by unfold maxLen;omega,by simp [Gn.nd_len],by simp [Gn.nd_len,List.take_of_length_le]⟩⟩
theorem Gn.new_one (w:World) (d:Mill.Nd) (hd:d.text.size≤100):Gn.Row w.heap.size (w.alloc (.cells #[.int .i64 d.kind,.int .i64 d.op,.int .i64 d.type,.int .i64 d.n,.string d.text,.int .i64 d.kids] 106)) (.slice (some ⟨w.heap.size,0,none⟩) 1 1) 1 :=
 ⟨[d],by simp,by simpa using hd,Gn.new_row w w.heap.size (Nat.le_refl _) [d] (by simp)⟩
theorem Gn.leaf_any (kind:Int) (t:ByteArray) (ht:t.size≤100) (w:World) :
  Calls Tryz.prog 98 #[.int .i64 kind,.string t] w fun e w' => ∃ a n c,e = .returned (.slice a n c)∧Gn.Row w.heap.size w' (.slice a n c) 1∧Below w.heap.size w w':=by
 go_enter Tryz.func98,Tryz.ntmps98
 go_wp2
 go_ret
 exact ⟨_,_,_,rfl,Gn.new_one w ⟨kind,0,0,0,t,0⟩ ht,(Below.refl _ w).alloc (Nat.le_refl _) _⟩
theorem Gn.textNode_any (t:ByteArray) (ht:t.size≤100) (w:World) :
  Calls Tryz.prog 75 #[.string t] w fun e w' => ∃ a n c,e = .returned (.slice a n c)∧Gn.Row w.heap.size w' (.slice a n c) 1∧Below w.heap.size w w':=by
 go_enter Tryz.func75,Tryz.ntmps75
 go_wp2_with (go_at_call 98;refine (Gn.leaf_any _ t ht _).mono ?_;rintro e w1 ⟨a,n,c,rfl,hr,hb⟩)
 go_ret
 exact ⟨a,n,c,rfl,hr,hb⟩
theorem Gn.int_any (t n:Int) (w:World) :
  Calls Tryz.prog 100 #[.int .i64 t,.int .i64 n] w fun e w' => ∃ a n c,e = .returned (.slice a n c)∧Gn.Row w.heap.size w' (.slice a n c) 1∧Below w.heap.size w w':=by
 go_enter Tryz.func100,Tryz.ntmps100
 go_wp2
 go_ret
 exact ⟨_,_,_,rfl,Gn.new_one w ⟨1,0,t,n,⟨#[]⟩,0⟩ Gn.no_text,(Below.refl _ w).alloc (Nat.le_refl _) _⟩
theorem Gn.built_of (op:Int) (vs:List Value) (K:Nat) (pa:Option Addr) (pc:Nat) (w:World) (hc:∀ i v,vs[i]? = some v→∃ b,pa=some ⟨b,0,none⟩∧w.cell? ⟨b,i,none⟩=some v) (hr:∀ v ∈ vs,∃ A,Gn.Row A w v K) (hl:vs.length≤100) (hK:vs.length * K≤1000000000) :
  Calls Tryz.prog 123 #[.int .i64 op,.slice pa vs.length pc] w fun e w' => ∃ a n c,e = .returned (.slice a n c)∧Gn.Row w.heap.size w' (.slice a n c) (vs.length * K+1)∧Below w.heap.size w w':=by
 have H:=Gn.over_of ⟨8,op,0,0,⟨#[]⟩,0⟩ Gn.no_text vs K pa pc w hc hr hl hK
 unfold Mill.ndV at H
 have HH:Hid (Calls Tryz.prog 77 #[.agg #[.int .i64 8,.int .i64 op,.int .i64 0,.int .i64 0,.string ⟨#[]⟩,.int .i64 0],.slice pa vs.length pc] w fun e w' => ∃ a n c,e = .returned (.slice a n c)∧Gn.Row w.heap.size w' (.slice a n c) (vs.length * K+1)∧Below w.heap.size w w'):=H
 clear H hc hr
 go_enter Tryz.func123,Tryz.ntmps123
 go_wp2_with fail
 refine HH.out.mono ?_
 rintro e w1 ⟨a,n,c,rfl,hr,hb⟩
 go_wp2
 go_ret
 exact ⟨a,n,c,rfl,hr,hb⟩
theorem Gn.bin_of (op:Int) (a:Option Addr) (n c:Nat) (a':Option Addr) (n' c':Nat) (K:Nat) (w:World) (h:∃ A,Gn.Row A w (.slice a n c) K) (h':∃ A,Gn.Row A w (.slice a' n' c') K) (hK:2 * K≤1000000000) :
  Calls Tryz.prog 99 #[.int .i64 op,.slice a n c,.slice a' n' c'] w fun e w' => ∃ a n c,e = .returned (.slice a n c)∧Gn.Row w.heap.size w' (.slice a n c) (2 * K+1)∧Below w.heap.size w w':=by
 obtain ⟨V,hV⟩:∃ V,w.alloc (.cells #[.slice a n c,.slice a' n' c'] 71)=V:=⟨_,rfl⟩
 have hb:Below w.heap.size w V:=by rw [← hV];exact (Below.refl _ w).alloc (Nat.le_refl _) _
 have hx:V.heap[w.heap.size]? = some (.cells #[.slice a n c,.slice a' n' c'] 71):=by rw [← hV];exact World.alloc_heap_new w _
 obtain ⟨A,hA⟩:=h
 obtain ⟨A',hA'⟩:=h'
 have hs:w.heap.size≤V.heap.size:=hb.size
 have H:=Gn.over_of ⟨6,op,0,0,⟨#[]⟩,0⟩ Gn.no_text [.slice a n c,.slice a' n' c'] K (some ⟨w.heap.size,0,none⟩) 2 V (fun i v hi=>⟨w.heap.size,rfl,by rw [Lib.cell_of_heap hx];simpa using hi⟩) (fun v hv=>by
  simp at hv
  rcases hv with rfl | rfl
  ·exact ⟨A,hA.fr (B:=0) (Gn.Fr.of_below hb)⟩
  ·exact ⟨A',hA'.fr (B:=0) (Gn.Fr.of_below hb)⟩) (by simp) hK
 unfold Mill.ndV at H
 have HH:Hid (Calls Tryz.prog 77 #[.agg #[.int .i64 6,.int .i64 op,.int .i64 0,.int .i64 0,.string ⟨#[]⟩,.int .i64 0],.slice (some ⟨w.heap.size,0,none⟩) 2 2] V fun e w' => ∃ a n c,e = .returned (.slice a n c)∧Gn.Row V.heap.size w' (.slice a n c) (2 * K+1)∧Below V.heap.size V w'):=H
 clear H hA hA' hx
 go_enter Tryz.func99,Tryz.ntmps99
 go_wp2_with fail
 try rw [hV]
 refine HH.out.mono ?_
 rintro e w1 ⟨a,n,c,rfl,hr,hb2⟩
 go_wp2
 go_ret
 exact ⟨a,n,c,rfl,hr.mono hs (Nat.le_refl _),hb.trans (hb2.mono hs)⟩
theorem Gn.pick0 (w:World) (R p:Nat) (hR:Mill.Rd w R p) (hp:p < 1099511627776) :
  Calls Tryz.prog 8 #[.pointer (some ⟨R,0,none⟩),.int .i64 0] w fun e w'=>e = .returned (.int .i64 0)∧Mill.Rd w' R (p+1)∧Mill.But R w w':=by
 obtain ⟨v,m,hb,hm,hB⟩:=hR.box
 have c1:w.cell? ⟨R,1,none⟩=some (.int .i64 (p:Int)):=by simp [World.cell?,hb]
 have f1:w.frozen? ⟨R,1,none⟩=false:=by simp [World.frozen?,hb]
 have hw:wrap64 ((p:Int)+1)=(p:Int)+1:=IntWalk.wrap64_in _ (by omega)
 have HR:Hid (Mill.Rd (w.setCell ⟨R,1,none⟩ (.int .i64 ((p:Int)+1))) R (p+1)):=hR.next ⟨rfl,rfl,rfl⟩
 clear hB hb hR
 go_enter Tryz.func8,Tryz.ntmps8
 go_wp2
 go_ret
 refine ⟨rfl,HR.out,rfl,rfl,rfl,by simp [World.setCell],fun k _ hk=>Below.heap_setCell _ _ _ _ hk⟩
theorem Gn.pick_any {B g R P:Nat} {w:World} {nv:Value} {nl:List (ByteArray × Int)} {fv:Value} {F:List Gn.Sg} {ret loops count size:Int} (h:Gn.St B g R P w nv nl fv F ret loops count size) (n:Int) (h1:1≤n) (h2:n≤1000000000) (hP:P≤1000000000) :
  Calls Tryz.prog 8 #[.pointer (some ⟨R,0,none⟩),.int .i64 n] w fun e w' => ∃ v:Nat,e = .returned (.int .i64 (v:Int))∧(v:Int) < n∧Gn.St B g R (P+1) w' nv nl fv F ret loops count size∧Gn.Fr B w w':=by
 obtain ⟨p,hp,hr⟩:=h.rd
 obtain ⟨m,rfl⟩:=Int.eq_ofNat_of_zero_le (show 0≤n by omega)
 refine (pick_dr w R p m hr (by omega) (by omega) (by omega)).mono ?_
 rintro e w' ⟨v,he,hv,hr',hB⟩
 obtain ⟨hs,hf⟩:=h.but (P':=P+1) ⟨p+1,by omega,hr'⟩ (by omega) hB
 exact ⟨v,he,by omega,hs,hf⟩
theorem Gn.pickN {B g R P:Nat} {w:World} {nv:Value} {nl:List (ByteArray × Int)} {fv:Value} {F:List Gn.Sg} {ret loops count size:Int} (h:Gn.St B g R P w nv nl fv F ret loops count size) (n:Nat) (h2:n≤1000000000) (hP:P≤1000000000) :
  Calls Tryz.prog 8 #[.pointer (some ⟨R,0,none⟩),.int .i64 (n:Int)] w fun e w' => ∃ v:Nat,e = .returned (.int .i64 (v:Int))∧(0 < n→v < n)∧v≤n∧Gn.St B g R (P+1) w' nv nl fv F ret loops count size∧Gn.Fr B w w':=by
 by_cases h0:n=0
 ·subst h0
  obtain ⟨p,hp,hr⟩:=h.rd
  refine (Gn.pick0 w R p hr (by omega)).mono ?_
  rintro e w' ⟨he,hr',hB⟩
  obtain ⟨hs,hf⟩:=h.but (P':=P+1) ⟨p+1,by omega,hr'⟩ (by omega) hB
  exact ⟨0,he,by omega,by omega,hs,hf⟩
 ·refine (Gn.pick_any h (n:Int) (by omega) (by omega) hP).mono ?_
  rintro e w' ⟨v,he,hv,hs,hf⟩
  exact ⟨v,he,by omega,by omega,hs,hf⟩
theorem Gn.St.dr {B g R P:Nat} {w:World} {nv:Value} {nl:List (ByteArray × Int)} {fv:Value} {F:List Gn.Sg} {ret loops count size:Int} (h:Gn.St B g R P w nv nl fv F ret loops count size):∃ p,p≤P∧Mill.Dr R p 0 w w:=by
 obtain ⟨p,hp,hr⟩:=h.rd
 exact ⟨p,hp,Mill.Dr.refl hr⟩
theorem Gn.St.of_dr {B g R P K p:Nat} {w w':World} {nv:Value} {nl:List (ByteArray × Int)} {fv:Value} {F:List Gn.Sg} {ret loops count size:Int} (h:Gn.St B g R P w nv nl fv F ret loops count size) (hp:p≤P) (hd:Mill.Dr R p K w w'):Gn.St B g R (P+K) w' nv nl fv F ret loops count size∧Gn.Fr B w w':=by
 obtain ⟨p',a1,a2,hr⟩:=hd.at_
 exact h.but ⟨p',by omega,hr⟩ (by omega) hd.but
theorem Gn.text_any {B g R P:Nat} {w:World} {nv:Value} {nl:List (ByteArray × Int)} {fv:Value} {F:List Gn.Sg} {ret loops count size:Int} (h:Gn.St B g R P w nv nl fv F ret loops count size) (hP:P≤1000000000) :
  Calls Tryz.prog 25 #[.pointer (some ⟨R,0,none⟩)] w fun e w' => ∃ t:ByteArray,e = .returned (.string t)∧t.size≤100∧Gn.St B g R (P+8) w' nv nl fv F ret loops count size∧Gn.Fr B w w':=by
 obtain ⟨p,hp,hd⟩:=h.dr
 refine (text_D hd (by omega)).mono ?_
 rintro e w' ⟨t,he,ht,hd',-⟩
 obtain ⟨hs,hf⟩:=h.of_dr hp hd'
 exact ⟨t,he,by omega,by simpa using hs,hf⟩
theorem Gn.path_any {B g R P:Nat} {w:World} {nv:Value} {nl:List (ByteArray × Int)} {fv:Value} {F:List Gn.Sg} {ret loops count size:Int} (h:Gn.St B g R P w nv nl fv F ret loops count size) (hP:P≤1000000000) :
  Calls Tryz.prog 48 #[.pointer (some ⟨R,0,none⟩)] w fun e w' => ∃ t:ByteArray,e = .returned (.string t)∧t.size≤100∧Gn.St B g R (P+1) w' nv nl fv F ret loops count size∧Gn.Fr B w w':=by
 obtain ⟨p,hp,hd⟩:=h.dr
 refine (path_D hd (by omega)).mono ?_
 rintro e w' ⟨t,he,ht,hd',-⟩
 obtain ⟨hs,hf⟩:=h.of_dr hp hd'
 exact ⟨t,he,by omega,by simpa using hs,hf⟩
theorem Gn.number_any {B g R P:Nat} {w:World} {nv:Value} {nl:List (ByteArray × Int)} {fv:Value} {F:List Gn.Sg} {ret loops count size:Int} (h:Gn.St B g R P w nv nl fv F ret loops count size) (hP:P≤1000000000) (t:Int) :
  Calls Tryz.prog 23 #[.pointer (some ⟨R,0,none⟩),.int .i64 t] w fun e w' => ∃ n:Int,e = .returned (.int .i64 n)∧Gn.St B g R (P+4) w' nv nl fv F ret loops count size∧Gn.Fr B w w':=by
 obtain ⟨p,hp,hd⟩:=h.dr
 refine (number_D t hd (by omega)).mono ?_
 rintro e w' ⟨n,he,-,-,hd',-⟩
 obtain ⟨hs,hf⟩:=h.of_dr hp hd'
 exact ⟨n,he,by simpa using hs,hf⟩
theorem Gn.St.cells {B g R P:Nat} {w:World} {nv:Value} {nl:List (ByteArray × Int)} {fv:Value} {F:List Gn.Sg} {ret loops count size:Int} (h:Gn.St B g R P w nv nl fv F ret loops count size):w.cell? ⟨g,0,none⟩=some (.pointer (some ⟨R,0,none⟩))∧w.cell? ⟨g,1,none⟩=some nv∧w.cell? ⟨g,2,none⟩=some fv∧w.cell? ⟨g,3,none⟩=some (.int .i64 ret)∧w.cell? ⟨g,4,none⟩=some (.int .i64 loops)∧w.cell? ⟨g,5,none⟩=some (.int .i64 count)∧w.cell? ⟨g,6,none⟩=some (.int .i64 size):=by
 have hb:=h.box
 refine ⟨?_, ?_, ?_, ?_, ?_, ?_, ?_⟩ <;> (rw [Lib.cell_of_heap hb];rfl)
theorem Gn.typ_any {B g R P:Nat} {w:World} {nv:Value} {nl:List (ByteArray × Int)} {fv:Value} {F:List Gn.Sg} {ret loops count size:Int} (h:Gn.St B g R P w nv nl fv F ret loops count size) (hP:P≤900000000) :
  Calls Tryz.prog 81 #[.pointer (some ⟨g,0,none⟩)] w fun e w' => ∃ t:Int,e = .returned (.int .i64 t)∧(1≤t∧t≤10)∧Gn.St B g R (P+2) w' nv nl fv F ret loops count size∧Gn.Fr B w w':=by
 have HS:Hid (Gn.St B g R P w nv nl fv F ret loops count size):=h
 have g0:=h.cells.1
 clear h
 go_enter Tryz.func81,Tryz.ntmps81
 go_wp2_with fail
 refine (Gn.pick_any HS.out 6 (by omega) (by omega) (by omega)).mono ?_
 rintro e w1 ⟨v,rfl,hv,hs1,hf1⟩
 have HS1:Hid (Gn.St B g R (P+1) w1 nv nl fv F ret loops count size):=hs1
 have HF1:Hid (Gn.Fr B w w1):=hf1
 have g1:=hs1.cells.1
 clear hs1 hf1 g0
 have hd:v=0∨v=1∨v=2∨v=3∨v=4∨v=5:=by omega
 clear hv
 rcases hd with rfl | rfl | rfl | rfl | rfl | rfl
 all_goals go_wp2_with (go_at_call 8;refine (Gn.pick_any HS1.out 8 (by omega) (by omega) (by omega)).mono ?_;rintro e w2 ⟨v,rfl,hv,hs2,hf2⟩)
 ·go_ret;exact ⟨1,rfl,by omega,HS1.out.mono (by omega),HF1.out⟩
 ·go_ret;exact ⟨2,rfl,by omega,HS1.out.mono (by omega),HF1.out⟩
 ·go_ret;exact ⟨2,rfl,by omega,HS1.out.mono (by omega),HF1.out⟩
 ·go_ret;exact ⟨10,rfl,by omega,HS1.out.mono (by omega),HF1.out⟩
 ·go_ret;exact ⟨3+(v:Int),rfl,by omega,hs2,HF1.out.trans hf2⟩
 ·go_ret;exact ⟨3+(v:Int),rfl,by omega,hs2,HF1.out.trans hf2⟩
end Go.Proofs.YtfoimmnlojjfbaaGreatDoor
