import Derived.Test.YtlcckaffhnjneaaGreatDoorKPcA
import Derived.WalkLawsBesides
import Derived.Test.YtlcckaffhnjneaaGreatDoorKPaA
set_option maxHeartbeats 1000000
namespace Go.Proofs.YtlcckaffhnjneaaGreatDoor
open Go.RowKit
variable {ts:List (Mill.Piece × Nat)} {g:Nat} {a:Option Addr} {c E i:Nat} {w:World}
theorem Pa.next_any (hP:Pa.P ts g a c E i w) :
  Calls Tryz.prog 95 #[.pointer (some ⟨g,0,none⟩)] w fun e w'=>e = .returned (Pa.tokV ts E i)∧Below w.heap.size w w':=by
 by_cases h:i < ts.length
 ·exact Pa.next_tok h hP
 ·exact Pa.next_end h hP
def Pa.fl (ts:List (Mill.Piece × Nat)) (E i:Nat):Value:=.agg #[.int .i64 6,.int .i64 (Pa.tat ts E i:Int)]
def Pa.pan (ts:List (Mill.Piece × Nat)) (E i:Nat):Ending:=.panicked [{ v:=.iface 26 (Pa.fl ts E i),recovered:=false }]
theorem Pa.field_tok (W:World) (v0 v1 v2 v3:Value) (z:Int):Sem.run Tryz.prog (Instr.field 41 (.agg #[v0,v1,v2,v3,.int .i64 z]) 4) W = .ok (.int .i64 z) W:=by
 simp [Instr.field,run_underlying Tryz.underlying41,go_sem,asAgg]
theorem Pa.res_flt (w:World):∃ W0,w.alloc (.cells #[.int .i64 0,.int .i64 0] 26)=W0∧Below w.heap.size w W0∧w.heap.size < W0.heap.size∧W0.cell? ⟨w.heap.size,0,none⟩=some (.int .i64 0)∧W0.cell? ⟨w.heap.size,1,none⟩=some (.int .i64 0)∧∀ k,W0.frozen? ⟨w.heap.size,k,none⟩=false:=by
 refine ⟨_,rfl,(Below.refl _ _).alloc (Nat.le_refl _) _,by simp, ?_, ?_,fun k => ?_⟩ <;> simp [go_sem]
theorem Pa.fault_any (hP:Pa.P ts g a c E i w) :
  Calls Tryz.prog 94 #[.pointer (some ⟨g,0,none⟩)] w fun e w'=>e = .returned (Pa.fl ts E i)∧Below w.heap.size w w':=by
 obtain ⟨W0,hW0,hb0,hs0,r0,r1,rf⟩:=Pa.res_flt w
 have hfl:=Pa.field_tok
 unfold Pa.fl
 have HN:Hid (Pa.tokV ts E i = .agg #[.int .i64 (Pa.kd ts i),.string (Mill.ba (Pa.tx ts i)),.int .i64 (Pa.ty ts i),.int .i64 (Pa.nm ts i),.int .i64 (Pa.tat ts E i:Int)]):=rfl
 generalize hQ:((Pa.tat ts E i:Nat):Int)=Q at *
 go_enter Tryz.func94,Tryz.ntmps94
 go_wp2_with (go_at_call 95;refine (Pa.next_any (hP.below hb0)).mono ?_;rintro e W1 ⟨rfl,hW1⟩;rw [HN.out];have e1:=Mill.bcell hW1;rw [← e1.1 _ _ hs0] at r0 r1;have rf1:∀ k,W1.frozen? ⟨w.heap.size,k,none⟩=false:=(fun k=>(e1.2 _ _ hs0).trans (rf k));clear e1 rf)
 have y0:((W1.setCell ⟨w.heap.size,0,none⟩ (.int .i64 6)).setCell ⟨w.heap.size,1,none⟩ (.int .i64 Q)).cell? ⟨w.heap.size,0,none⟩=some (.int .i64 6):=by
  rw [World.cell?_setCell_other _ _ _ _ (by simp)];exact World.cell?_setCell_same _ _ _ r0
 have y1:((W1.setCell ⟨w.heap.size,0,none⟩ (.int .i64 6)).setCell ⟨w.heap.size,1,none⟩ (.int .i64 Q)).cell? ⟨w.heap.size,1,none⟩=some (.int .i64 Q) :=
  World.cell?_setCell_same _ _ _ (by rw [World.cell?_setCell_other _ _ _ _ (by simp)];exact r1)
 refine bodyPost_ret (v:=.agg #[.int .i64 6,.int .i64 Q]) (by simp [results,Tryz.results94,go_sem,y0,y1]) rfl ?_
 exact ⟨rfl,(((hb0.trans (hW1.mono (by omega))).setCell (p:=⟨w.heap.size,0,none⟩) (Nat.le_refl _) _).setCell (p:=⟨w.heap.size,1,none⟩) (Nat.le_refl _) _)⟩
theorem Pa.stands_any (k:Int) (T:List UInt8) (hP:Pa.P ts g a c E i w) :
  Calls Tryz.prog 118 #[.pointer (some ⟨g,0,none⟩),.int .i64 k,.string ⟨T.toArray⟩] w fun e w'=>e = .returned (.bool (Pa.st ts k T i))∧Below w.heap.size w w':=by
 have HI:Hid (Pa.st ts k T i=((Pa.kd ts i == k) && (Mill.ba (Pa.tx ts i)).toList == (⟨T.toArray⟩:ByteArray).toList)):=by
  have e1:=Pa.ba_list (Pa.tx ts i)
  have e2:=Pa.ba_list T
  rw [Hid,Pa.st,e1]
  simp only [Mill.ba] at e2
  rw [e2]
 obtain ⟨R,hR⟩:∃ R,Pa.st ts k T i=R:=⟨_,rfl⟩
 rw [hR] at HI ⊢
 have HN:Hid (Pa.tokV ts E i = .agg #[.int .i64 (Pa.kd ts i),.string (Mill.ba (Pa.tx ts i)),.int .i64 (Pa.ty ts i),.int .i64 (Pa.nm ts i),.int .i64 (Pa.tat ts E i:Int)]):=rfl
 generalize Pa.kd ts i=K at *
 generalize Mill.ba (Pa.tx ts i)=X at *
 generalize Pa.ty ts i=Y at *
 generalize Pa.nm ts i=Z at *
 generalize (⟨T.toArray⟩:ByteArray)=U at *
 cases e5:(K == k) <;> cases e1:(X.toList == U.toList)
 all_goals
  rw [e5,e1] at HI
  simp at HI
  go_enter Tryz.func118,Tryz.ntmps118
  go_wp2_with (go_at_call 95;refine (Pa.next_any hP).mono ?_;rintro e W1 ⟨rfl,hW1⟩;rw [HN.out])
  go_ret
  exact ⟨by rw [HI.out];rfl,hW1.alloc hW1.size _⟩
variable {ts:List (Mill.Piece × Nat)} {g:Nat} {a:Option Addr} {c E i j:Nat} {w W W2:World}
def Pa.Pt (ts:List (Mill.Piece × Nat)) (g:Nat) (a:Option Addr) (c E j:Nat) (w w':World):Prop:=Pa.P ts g a c E j w'∧Pa.Fr g w w'
theorem Pa.Pt.to (h:Pa.Pt ts g a c E i w W) (k:Pa.Pt ts g a c E j W W2):Pa.Pt ts g a c E j w W2:=⟨k.1,h.2.trans k.2⟩
theorem Pa.st_lt {k:Int} {T:List UInt8} (hk:k≠0) (h:Pa.st ts k T i=true):i < ts.length:=by
 by_cases hp:i < ts.length
 ·exact hp
 ·simp [Pa.st,Pa.kd_end hp] at h;exact absurd h.1.symm hk
theorem Pa.takes_yes (k:Int) (T:List UInt8) (hs:Pa.st ts k T i=true) (hp:i < ts.length) (hP:Pa.P ts g a c E i w) :
  Calls Tryz.prog 96 #[.pointer (some ⟨g,0,none⟩),.int .i64 k,.string ⟨T.toArray⟩] w fun e w'=>e = .returned (.bool true)∧Pa.Pt ts g a c E (i+1) w w':=by
 obtain ⟨hs1,hs2⟩:=hP.sum
 go_enter Tryz.func96,Tryz.ntmps96
 go_wp2_with (go_at_call 118;refine (Pa.stands_any k T hP).mono ?_;rintro e W1 ⟨rfl,hW1⟩;rw [hs];have hP1:=hP.below hW1;obtain ⟨c0,c1,c2,f1⟩:=hP1.cells)
 go_ret
 exact ⟨rfl,hP1.nx hp,(Pa.Fr.of_below hW1).trans (Pa.Fr.set _ _ _)⟩
theorem Pa.takes_not (k:Int) (T:List UInt8) (hs:Pa.st ts k T i=false) (hP:Pa.P ts g a c E i w) :
  Calls Tryz.prog 96 #[.pointer (some ⟨g,0,none⟩),.int .i64 k,.string ⟨T.toArray⟩] w fun e w'=>e = .returned (.bool false)∧Pa.Pt ts g a c E i w w':=by
 go_enter Tryz.func96,Tryz.ntmps96
 go_wp2_with (go_at_call 118;refine (Pa.stands_any k T hP).mono ?_;rintro e W1 ⟨rfl,hW1⟩;rw [hs];have hP1:=hP.below hW1)
 go_ret
 exact ⟨rfl,hP1,Pa.Fr.of_below hW1⟩
theorem Pa.takes_any (k:Int) (hk:k≠0:=by decide) (T:List UInt8) (hP:Pa.P ts g a c E i w) :
  Calls Tryz.prog 96 #[.pointer (some ⟨g,0,none⟩),.int .i64 k,.string ⟨T.toArray⟩] w fun e w'=>e = .returned (.bool (Pa.st ts k T i))∧Pa.Pt ts g a c E (if Pa.st ts k T i then i+1 else i) w w':=by
 cases hs:Pa.st ts k T i with
 | true=>simpa using Pa.takes_yes k T hs (Pa.st_lt hk hs) hP
 | false=>simpa using Pa.takes_not k T hs hP
theorem Pa.takesM_any (T:List UInt8) (hP:Pa.P ts g a c E i w) :
  Calls Tryz.prog 68 #[.pointer (some ⟨g,0,none⟩),.string ⟨T.toArray⟩] w fun e w'=>e = .returned (.bool (Pa.st ts 5 T i))∧Pa.Pt ts g a c E (if Pa.st ts 5 T i then i+1 else i) w w':=by
 obtain ⟨R,HR⟩:∃ R,Hid (Pa.st ts 5 T i=R):=⟨_,rfl⟩
 rw [HR.out]
 obtain ⟨j,HJ⟩:∃ j,Hid ((if R then i+1 else i)=j):=⟨_,rfl⟩
 rw [HJ.out]
 go_enter Tryz.func68,Tryz.ntmps68
 go_wp2_with (go_at_call 96;refine (Pa.takes_any 5 (by decide) T hP).mono ?_;rintro e W1 ⟨rfl,hT⟩;rw [HR.out] at hT ⊢;rw [HJ.out] at hT)
 go_ret
 exact ⟨rfl,hT⟩
theorem Pa.takesW_any (T:List UInt8) (hP:Pa.P ts g a c E i w) :
  Calls Tryz.prog 93 #[.pointer (some ⟨g,0,none⟩),.string ⟨T.toArray⟩] w fun e w'=>e = .returned (.bool (Pa.st ts 2 T i))∧Pa.Pt ts g a c E (if Pa.st ts 2 T i then i+1 else i) w w':=by
 obtain ⟨R,HR⟩:∃ R,Hid (Pa.st ts 2 T i=R):=⟨_,rfl⟩
 rw [HR.out]
 obtain ⟨j,HJ⟩:∃ j,Hid ((if R then i+1 else i)=j):=⟨_,rfl⟩
 rw [HJ.out]
 go_enter Tryz.func93,Tryz.ntmps93
 go_wp2_with (go_at_call 96;refine (Pa.takes_any 2 (by decide) T hP).mono ?_;rintro e W1 ⟨rfl,hT⟩;rw [HR.out] at hT ⊢;rw [HJ.out] at hT)
 go_ret
 exact ⟨rfl,hT⟩
theorem Pa.needsM_ok (T:List UInt8) (hs:Pa.st ts 5 T i=true) (hP:Pa.P ts g a c E i w) :
  Calls Tryz.prog 67 #[.pointer (some ⟨g,0,none⟩),.string ⟨T.toArray⟩] w fun e w'=>e = .returned (.tuple #[])∧Pa.Pt ts g a c E (i+1) w w':=by
 go_enter Tryz.func67,Tryz.ntmps67
 go_wp2_with (go_at_call 68;refine (Pa.takesM_any T hP).mono ?_;rintro e W1 ⟨rfl,hT⟩;rw [hs] at hT ⊢;rw [if_pos rfl] at hT)
 go_end0
 exact ⟨rfl,hT⟩
theorem Pa.needsM_no (T:List UInt8) (hs:Pa.st ts 5 T i=false) (hP:Pa.P ts g a c E i w) :
  Calls Tryz.prog 67 #[.pointer (some ⟨g,0,none⟩),.string ⟨T.toArray⟩] w fun e w'=>e=Pa.pan ts E i∧Pa.Pt ts g a c E i w w':=by
 have HF:Hid (Pa.fl ts E i = .agg #[.int .i64 6,.int .i64 (Pa.tat ts E i:Int)]):=rfl
 unfold Pa.pan
 rw [HF.out]
 generalize ((Pa.tat ts E i:Nat):Int)=Q at *
 go_enter Tryz.func67,Tryz.ntmps67
 go_wp2_with (first
  | (go_at_call 68;refine (Pa.takesM_any T hP).mono ?_;rintro e W1 ⟨rfl,hT⟩;rw [hs] at hT ⊢;rw [if_neg (by simp)] at hT)
  | (go_at_call 94;refine (Pa.fault_any hT.1).mono ?_;rintro e W2 ⟨rfl,hW2⟩;rw [HF.out];have hT2:=hT.to ⟨hT.1.below hW2,Pa.Fr.of_below hW2⟩))
 exact ⟨rfl,rfl,hT2⟩
theorem Pa.needsW_ok (T:List UInt8) (hs:Pa.st ts 2 T i=true) (hP:Pa.P ts g a c E i w) :
  Calls Tryz.prog 65 #[.pointer (some ⟨g,0,none⟩),.string ⟨T.toArray⟩] w fun e w'=>e = .returned (.tuple #[])∧Pa.Pt ts g a c E (i+1) w w':=by
 go_enter Tryz.func65,Tryz.ntmps65
 go_wp2_with (go_at_call 93;refine (Pa.takesW_any T hP).mono ?_;rintro e W1 ⟨rfl,hT⟩;rw [hs] at hT ⊢;rw [if_pos rfl] at hT)
 go_end0
 exact ⟨rfl,hT⟩
theorem Pa.needsW_no (T:List UInt8) (hs:Pa.st ts 2 T i=false) (hP:Pa.P ts g a c E i w) :
  Calls Tryz.prog 65 #[.pointer (some ⟨g,0,none⟩),.string ⟨T.toArray⟩] w fun e w'=>e=Pa.pan ts E i∧Pa.Pt ts g a c E i w w':=by
 have HF:Hid (Pa.fl ts E i = .agg #[.int .i64 6,.int .i64 (Pa.tat ts E i:Int)]):=rfl
 unfold Pa.pan
 rw [HF.out]
 generalize ((Pa.tat ts E i:Nat):Int)=Q at *
 go_enter Tryz.func65,Tryz.ntmps65
 go_wp2_with (first
  | (go_at_call 93;refine (Pa.takesW_any T hP).mono ?_;rintro e W1 ⟨rfl,hT⟩;rw [hs] at hT ⊢;rw [if_neg (by simp)] at hT)
  | (go_at_call 94;refine (Pa.fault_any hT.1).mono ?_;rintro e W2 ⟨rfl,hW2⟩;rw [HF.out];have hT2:=hT.to ⟨hT.1.below hW2,Pa.Fr.of_below hW2⟩))
 exact ⟨rfl,rfl,hT2⟩
variable {ts:List (Mill.Piece × Nat)} {g:Nat} {a:Option Addr} {c:Nat} {s:Pa.S} {w:World}
theorem Pa.D.nx (h:Pa.D ts g a c s w) (hp:s.p < ts.length):Pa.D ts g a c (Pa.nx s) (w.setCell ⟨g,1,none⟩ (.int .i64 ((s.p:Int)+1))):=h.at (s.p+1) (by omega)
theorem Pa.D.sum (h:Pa.D ts g a c s w):wrap64 ((s.p:Int)+1)=(s.p:Int)+1∧IntKind.i64.wrap ((s.p:Int)+1)=(s.p:Int)+1:=by
 have h1:=h.le
 have h2:=h.len
 have e:wrap64 ((s.p:Int)+1)=(s.p:Int)+1:=by rw [wrap64];omega
 exact ⟨e,(IntWalk.i64_left _).trans e⟩
def Pa.To (ts:List (Mill.Piece × Nat)) (g:Nat) (a:Option Addr) (c:Nat) (s':Pa.S) (w w':World):Prop:=Pa.D ts g a c s' w'∧Pa.Fr g w w'
theorem Pa.need_any (T:List UInt8) (hD:Pa.D ts g a c s w) :
  Calls Tryz.prog 23 #[.pointer (some ⟨g,0,none⟩),.string ⟨T.toArray⟩] w fun e w'=>e = .returned (.tuple #[])∧Pa.To ts g a c (Pa.need ts T s) w w':=by
 obtain ⟨hs1,hs2⟩:=hD.sum
 cases hI:Pa.is ts T s with
 | true =>
  have HN:Hid (Pa.need ts T s=Pa.nx s):=by simp [Hid,Pa.need,hI]
  have hp:=(Pa.is_lt hI).1
  go_enter Tryz.func23,Tryz.ntmps23
  go_wp2_with (go_at_call 43;refine (Pa.is_any T hD).mono ?_;rintro e W ⟨rfl,hW⟩;have hD2:=hD.below hW;obtain ⟨c0,c1,c2,f1,f2⟩:=hD2.cells;rw [hI])
  go_end0
  exact ⟨rfl,by rw [HN.out];exact hD2.nx hp,(Pa.Fr.of_below hW).trans (Pa.Fr.set _ _ _)⟩
 | false =>
  have HN:Hid (Pa.need ts T s=⟨s.p,true⟩):=by simp [Hid,Pa.need,hI]
  go_enter Tryz.func23,Tryz.ntmps23
  go_wp2_with (go_at_call 43;refine (Pa.is_any T hD).mono ?_;rintro e W ⟨rfl,hW⟩;have hD2:=hD.below hW;obtain ⟨c0,c1,c2,f1,f2⟩:=hD2.cells;rw [hI])
  go_end0
  exact ⟨rfl,by rw [HN.out];exact hD2.bad true,(Pa.Fr.of_below hW).trans (Pa.Fr.set _ _ _)⟩
theorem Pa.opt_any (T:List UInt8) (hD:Pa.D ts g a c s w) :
  Calls Tryz.prog 25 #[.pointer (some ⟨g,0,none⟩),.string ⟨T.toArray⟩] w fun e w'=>e = .returned (.bool (Pa.is ts T s))∧Pa.To ts g a c (Pa.opt ts T s) w w':=by
 obtain ⟨hs1,hs2⟩:=hD.sum
 cases hI:Pa.is ts T s with
 | true =>
  have HN:Hid (Pa.opt ts T s=Pa.nx s):=by simp [Hid,Pa.opt,hI]
  have hp:=(Pa.is_lt hI).1
  go_enter Tryz.func25,Tryz.ntmps25
  go_wp2_with (go_at_call 43;refine (Pa.is_any T hD).mono ?_;rintro e W ⟨rfl,hW⟩;have hD2:=hD.below hW;obtain ⟨c0,c1,c2,f1,f2⟩:=hD2.cells;rw [hI])
  go_ret
  exact ⟨rfl,by rw [HN.out];exact hD2.nx hp,(Pa.Fr.of_below hW).trans (Pa.Fr.set _ _ _)⟩
 | false =>
  have HN:Hid (Pa.opt ts T s=s):=by simp [Hid,Pa.opt,hI]
  go_enter Tryz.func25,Tryz.ntmps25
  go_wp2_with (go_at_call 43;refine (Pa.is_any T hD).mono ?_;rintro e W ⟨rfl,hW⟩;have hD2:=hD.below hW;obtain ⟨c0,c1,c2,f1,f2⟩:=hD2.cells;rw [hI])
  go_ret
  exact ⟨rfl,by rw [HN.out];exact hD2,Pa.Fr.of_below hW⟩
theorem Pa.kind_any (hD:Pa.D ts g a c s w) :
  Calls Tryz.prog 44 #[.pointer (some ⟨g,0,none⟩)] w fun e w'=>e = .returned (.int .i64 (Pa.kind ts s))∧Below w.heap.size w w':=by
 obtain ⟨c0,c1,c2,_,_⟩:=hD.cells
 have hlen:=hD.len
 have hcap:=hD.cap
 obtain ⟨b,hb⟩:∃ b,s.bad=b:=⟨_,rfl⟩
 rw [hb] at c2
 cases b with
 | true =>
  have HI:Pa.kind ts s=0:=by simp [Pa.kind,hb]
  rw [HI]
  clear hb HI
  go_enter Tryz.func44,Tryz.ntmps44
  go_wp2_with fail
  go_quiet (fail)
  go_wp2_with fail
  go_ret
  exact ⟨rfl,Pa.below_drewN _ (Below.refl _ _)⟩
 | false =>
  by_cases hp:s.p < ts.length
  ·obtain ⟨b,rfl,hbg,k0,k1,k2,k3,z,k4⟩:=hD.tok hp
   have HI:Pa.kind ts s=Pa.kd ts s.p:=by simp [Pa.kind,hb]
   rw [HI]
   generalize Pa.kd ts s.p=K at *
   generalize hN:ts.length=n at *
   generalize hP:s.p=p at *
   clear hN hP hD hb k1 k2 k3 k4 HI
   have hpn:(p:Int) < (n:Int):=by omega
   have hpz:(0:Int)≤(p:Int):=by omega
   have hd:decide ((n:Int)≤(p:Int))=false:=by simp;omega
   have hd':decide (n≤p)=false:=by simp;omega
   go_enter Tryz.func44,Tryz.ntmps44
   go_wp2_with fail
   go_quiet (fail)
   go_wp2_with fail
   go_quiet (fail)
   go_wp2_with fail
   go_ret
   exact ⟨rfl,Pa.below_drewN _ (Pa.below_drewN _ (Below.refl _ _))⟩
  ·have HI:Pa.kind ts s=0:=by simp [Pa.kind,Pa.kd_end hp]
   rw [HI]
   generalize hN:ts.length=n at *
   generalize hP:s.p=p at *
   clear hN hP HI hD hb
   have hd:decide ((n:Int)≤(p:Int))=true:=by simp;omega
   have hd':decide (n≤p)=true:=by simp;omega
   go_enter Tryz.func44,Tryz.ntmps44
   go_wp2_with fail
   go_quiet (fail)
   go_wp2_with fail
   go_ret
   exact ⟨rfl,Pa.below_drewN _ (Below.refl _ _)⟩
variable {ts:List (Mill.Piece × Nat)} {g:Nat} {a:Option Addr} {c:Nat} {s:Pa.S} {w:World}
theorem Pa.kind_lt {k:Int} (h:Pa.kind ts s=k) (hk:k≠0):s.p < ts.length∧s.bad=false:=by
 by_cases hp:s.p < ts.length
 ·refine ⟨hp, ?_⟩
  cases hb:s.bad with
  | false=>rfl
  | true=>simp [Pa.kind,hb] at h;exact absurd h.symm hk
 ·simp [Pa.kind,Pa.kd_end hp] at h;exact absurd h.symm hk
theorem Pa.name_any (hD:Pa.D ts g a c s w) :
  Calls Tryz.prog 24 #[.pointer (some ⟨g,0,none⟩)] w fun e w'=>e = .returned (.string (Mill.ba (Pa.nameT ts s)))∧Pa.To ts g a c (Pa.name ts s) w w':=by
 obtain ⟨hs1,hs2⟩:=hD.sum
 by_cases hk:Pa.kind ts s=1
 ·have HN:Hid (Pa.name ts s=Pa.nx s):=by simp [Hid,Pa.name,hk]
  have HT:Hid (Pa.nameT ts s=Pa.tx ts s.p):=by simp [Hid,Pa.nameT,hk]
  rw [HN.out,HT.out]
  have hp:=(Pa.kind_lt hk (by decide)).1
  have hlen:=hD.len
  have hcap:=hD.cap
  obtain ⟨X,HX⟩:∃ X,Hid (Mill.ba (Pa.tx ts s.p)=X):=⟨_,rfl⟩
  rw [HX.out]
  clear HN HT
  go_enter Tryz.func24,Tryz.ntmps24
  go_wp2_with (go_at_call 44;refine (Pa.kind_any hD).mono ?_;rintro e W ⟨rfl,hW⟩;have hD2:=hD.below hW;obtain ⟨c0,c1,c2,f1,f2⟩:=hD2.cells;rw [hk])
  have hD3:=hD2.nx hp
  obtain ⟨W2,hW2⟩:∃ W2,W.setCell ⟨g,1,none⟩ (.int .i64 ((s.p:Int)+1))=W2:=⟨_,rfl⟩
  rw [hW2] at hD3 ⊢
  have HF:Hid (Pa.Fr g w W2):=by rw [Hid,← hW2];exact (Pa.Fr.of_below hW).trans (Pa.Fr.set _ _ _)
  have HD:Hid (Pa.D ts g a c (Pa.nx s) W2):=hD3
  obtain ⟨b,rfl,hbg,k0,k1,k2,k3,z,k4⟩:=hD2.tok hp
  obtain ⟨u0,u1,u2,_,_⟩:=hD3.cells
  have v1:W2.cell? ⟨b,s.p * 5+1,none⟩=some (.string X):=by
   rw [← HX.out,← hW2,World.cell?_setCell_other]
   ·exact k1
   ·simp;try omega
  simp only [Pa.nx] at u1
  clear hD3 hD2 hD hW hW2 c0 c1 c2 f1 f2 k0 k1 k2 k3 k4
  have hpn:(s.p:Int) < (ts.length:Int):=by omega
  have hpz:(0:Int)≤(s.p:Int):=by omega
  have u1':W2.cell? ⟨g,1,none⟩=some (.int .i64 ((s.p:Int)+1)):=by rw [u1];simp
  have hm:(s.p:Int)+1 - 1=(s.p:Int):=by omega
  have hm2:IntKind.i64.wrap (s.p:Int)=(s.p:Int):=by rw [IntWalk.i64_left,wrap64];omega
  have hm3:wrap64 (s.p:Int)=(s.p:Int):=by rw [wrap64];omega
  clear u1
  go_wp2_with fail
  go_quiet (fail)
  go_wp2_with fail
  go_ret
  exact ⟨rfl,HD.out.below (Pa.below_drewN _ (Below.refl _ _)),HF.out.trans (Pa.Fr.of_below (Pa.below_drewN _ (Below.refl _ _)))⟩
 ·have HN:Hid (Pa.name ts s=⟨s.p,true⟩):=by simp [Hid,Pa.name,hk]
  have HT:Hid (Pa.nameT ts s=[]):=by simp [Hid,Pa.nameT,hk]
  rw [HN.out,HT.out]
  have hk':(Pa.kind ts s != 1)=true:=by simpa using hk
  generalize hK:Pa.kind ts s=K at *
  clear HN HT
  go_enter Tryz.func24,Tryz.ntmps24
  go_wp2_with (go_at_call 44;refine (Pa.kind_any hD).mono ?_;rintro e W ⟨rfl,hW⟩;have hD2:=hD.below hW;obtain ⟨c0,c1,c2,f1,f2⟩:=hD2.cells;rw [hK])
  go_ret
  exact ⟨rfl,hD2.bad true,(Pa.Fr.of_below hW).trans (Pa.Fr.set _ _ _)⟩
theorem Pa.list_lit (l:List UInt8):(⟨l.toArray⟩:ByteArray).toList=l:=Pa.ba_list l
theorem Pa.ix_nil (x:List UInt8):Pa.ix [] x=0:=rfl
theorem Pa.ix_cons (m:List UInt8) (l:List (List UInt8)) (x:List UInt8):Pa.ix (m::l) x=if m=x then 1 else if Pa.ix l x=0 then 0 else Pa.ix l x+1:=by
 unfold Pa.ix
 by_cases h:m=x
 ·subst h;simp
 ·have h':¬ x=m:=fun e=>h e.symm
  by_cases h2:x ∈ l
  ·simp [h2,h,h',List.idxOf_cons,beq_eq_false_iff_ne.2 h]
  ·simp [h2,h,h']
theorem Pa.ix_le (l:List (List UInt8)) (x:List UInt8):Pa.ix l x≤l.length:=by
 unfold Pa.ix
 split
 ·rename_i h;have:=List.idxOf_lt_length_of_mem h;omega
 ·omega
theorem Pa.typeFrom_ix (x:List UInt8):∀ (l:List (List UInt8)) (t:Nat),(∀ j (h:j < l.length),Mill.typeWord ((t+j:Nat):Int)=⟨l[j].toArray⟩)→Mill.typeFrom (Mill.ba x) l.length (t:Int)=if Pa.ix l x=0 then 0 else (t:Int)+(Pa.ix l x:Int) - 1
 | [],t,_=>by simp [Mill.typeFrom,Pa.ix_nil]
 | m::l,t,h=>by
  have h0:=h 0 (by simp)
  simp only [Nat.add_zero,List.getElem_cons_zero] at h0
  have ih:=Pa.typeFrom_ix x l (t+1) (fun j hj=>by
   have:=h (j+1) (by simpa using hj)
   rw [show t+1+j=t+(j+1) by omega]
   simpa using this)
  have e:((t+1:Nat):Int)=(t:Int)+1:=by omega
  rw [e] at ih
  rw [List.length_cons,Mill.typeFrom,h0,Pa.list_lit,Pa.ba_list,ih,Pa.ix_cons]
  by_cases hm:m=x
  ·subst hm;simp
  ·simp only [beq_iff_eq,hm,if_false]
   by_cases hz:Pa.ix l x=0
   ·simp [hz]
   ·simp [hz];omega
theorem Pa.typeOf_ix (x:List UInt8):Mill.typeOf (Mill.ba x)=(Pa.ix Pa.words x:Int):=by
 have h:=Pa.typeFrom_ix x Pa.words 1 (by decide)
 have e:Mill.typeOf (Mill.ba x)=Mill.typeFrom (Mill.ba x) Pa.words.length ((1:Nat):Int):=rfl
 rw [e,h]
 by_cases hz:Pa.ix Pa.words x=0
 ·simp [hz]
 ·simp [hz];omega
theorem Pa.quiet {P:Program} {f:FuncId} {args:Array Value} {w:World} {n:Nat} {v:Value}
  (h:Calls P f args (w.drewN n) fun e w'=>e = .returned v∧w.drewN n=w'):Calls P f args (w.drewN n) fun e w''=>e = .returned v∧∃ m,w''=w.drewN m :=
 h.mono fun _ _ ⟨he,hm⟩=>⟨he,n,hm.symm⟩
theorem Pa.type_is (x:ByteArray) (t:Int) (h:Mill.typeOf x=t) (w:World):Calls Tryz.prog 45 #[.string x] w fun e w'=>e = .returned (.int .i64 t)∧w=w':=by rw [← h];exact l1Type_any x w
theorem Pa.typ_any (hD:Pa.D ts g a c s w) :
  Calls Tryz.prog 26 #[.pointer (some ⟨g,0,none⟩)] w fun e w'=>e = .returned (.int .i64 (Pa.typT ts s:Int))∧Pa.To ts g a c (Pa.typ ts s) w w':=by
 obtain ⟨hs1,hs2⟩:=hD.sum
 by_cases hk:Pa.kind ts s=2
 ·have HT:Hid (Pa.typT ts s=Pa.ix Pa.words (Pa.tx ts s.p)):=by simp [Hid,Pa.typT,hk]
  have hp:=(Pa.kind_lt hk (by decide)).1
  have hlen:=hD.len
  have hcap:=hD.cap
  have HX:=Pa.typeOf_ix (Pa.tx ts s.p)
  rw [← HT.out] at HX
  obtain ⟨X,hX⟩:∃ X,Mill.ba (Pa.tx ts s.p)=X:=⟨_,rfl⟩
  rw [hX] at HX
  have hpn:(s.p:Int) < (ts.length:Int):=by omega
  have hpz:(0:Int)≤(s.p:Int):=by omega
  by_cases hz:Pa.typT ts s=0
  ·have HN:Hid (Pa.typ ts s=⟨s.p,true⟩):=by simp [Hid,Pa.typ,hz]
   rw [HN.out,hz]
   rw [hz] at HX
   clear HN HT hz
   go_enter Tryz.func26,Tryz.ntmps26
   go_wp2_with (go_at_call 44;refine (Pa.kind_any hD).mono ?_;rintro e W ⟨rfl,hW⟩;have hD2:=hD.below hW;obtain ⟨c0,c1,c2,f1,f2⟩:=hD2.cells;obtain ⟨b,rfl,hbg,k0,k1,k2,k3,z,k4⟩:=hD2.tok hp;rw [hX] at k1;rw [hk])
   go_quiet (first | (go_at_call 45;refine Pa.quiet (Pa.type_is _ _ HX _)))
   have hq:∀ (W':World) n,Below W'.heap.size W' (W'.drewN n):=fun _ _=>Pa.below_drewN _ (Below.refl _ _)
   have hD3:=hD2.below (hq W nq)
   have HF:Hid (Pa.Fr g w (W.drewN nq)):=(Pa.Fr.of_below hW).trans (Pa.Fr.of_below (hq W nq))
   obtain ⟨W3,hW3⟩:∃ W3,W.drewN nq=W3:=⟨_,rfl⟩
   rw [hW3] at hD3 HF ⊢
   clear hW3 c0 c1 c2 f1 f2 k0 k1 k2 k3 k4
   obtain ⟨c0,c1,c2,f1,f2⟩:=hD3.cells
   go_wp2_with fail
   go_ret
   exact ⟨rfl,hD3.bad true,HF.out.trans (Pa.Fr.set _ _ _)⟩
  ·have HN:Hid (Pa.typ ts s=Pa.nx s):=by simp [Hid,Pa.typ,hz]
   rw [HN.out]
   obtain ⟨t,ht⟩:∃ t:Int,(Pa.typT ts s:Int)=t:=⟨_,rfl⟩
   have hz':(t == 0)=false:=by simp;omega
   rw [ht] at HX ⊢
   clear HN HT hz
   go_enter Tryz.func26,Tryz.ntmps26
   go_wp2_with (go_at_call 44;refine (Pa.kind_any hD).mono ?_;rintro e W ⟨rfl,hW⟩;have hD2:=hD.below hW;obtain ⟨c0,c1,c2,f1,f2⟩:=hD2.cells;obtain ⟨b,rfl,hbg,k0,k1,k2,k3,z,k4⟩:=hD2.tok hp;rw [hX] at k1;rw [hk])
   go_quiet (first | (go_at_call 45;refine Pa.quiet (Pa.type_is _ _ HX _)))
   have hq:∀ (W':World) n,Below W'.heap.size W' (W'.drewN n):=fun _ _=>Pa.below_drewN _ (Below.refl _ _)
   have hD3:=hD2.below (hq W nq)
   have HF:Hid (Pa.Fr g w (W.drewN nq)):=(Pa.Fr.of_below hW).trans (Pa.Fr.of_below (hq W nq))
   obtain ⟨W3,hW3⟩:∃ W3,W.drewN nq=W3:=⟨_,rfl⟩
   rw [hW3] at hD3 HF ⊢
   clear hW3 c0 c1 c2 f1 f2 k0 k1 k2 k3 k4
   obtain ⟨c0,c1,c2,f1,f2⟩:=hD3.cells
   go_wp2_with fail
   go_ret
   exact ⟨rfl,hD3.nx hp,HF.out.trans (Pa.Fr.set _ _ _)⟩
 ·have HT:Pa.typT ts s=0:=by simp [Pa.typT,hk]
  have HN:Hid (Pa.typ ts s=⟨s.p,true⟩):=by simp [Hid,Pa.typ,HT]
  rw [HN.out,HT]
  have hk':(Pa.kind ts s == 2)=false:=by simpa using hk
  generalize hK:Pa.kind ts s=K at *
  clear HN HT
  go_enter Tryz.func26,Tryz.ntmps26
  go_wp2_with (go_at_call 44;refine (Pa.kind_any hD).mono ?_;rintro e W ⟨rfl,hW⟩;have hD2:=hD.below hW;obtain ⟨c0,c1,c2,f1,f2⟩:=hD2.cells;rw [hK])
  go_ret
  exact ⟨rfl,hD2.bad true,(Pa.Fr.of_below hW).trans (Pa.Fr.set _ _ _)⟩
end Go.Proofs.YtlcckaffhnjneaaGreatDoor
