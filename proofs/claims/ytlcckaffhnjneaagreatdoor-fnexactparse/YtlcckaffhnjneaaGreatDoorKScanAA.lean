import Derived.Test.YtlcckaffhnjneaaGreatDoorKScanX
set_option maxRecDepth 100000
set_option maxHeartbeats 4000000
namespace Go.Proofs.YtlcckaffhnjneaaGreatDoor
open Go.RowKit Go.Shelf
attribute [local go_sem] Oper.semAt_some
theorem tokens_stops (s:ByteArray) (hs:s.size≤12000) (Bs n₀:Nat) (w:World) (hn:0 < n₀∧5 < n₀) (hsrc:Boxed w Bs 9 (.string s)) (hG:Mill.Globs w) :
  SeqStopsK Fence.wide 2 Tryz.prog 56 #[.pointer (some ⟨Bs,0,none⟩)] Mill.encs (Mill.Kp n₀) (fun xs=>xs=Mill.seq s) (fun pre=>pre <+: Mill.seq s) (Mill.seq s).length w:=fun l J Jx W hW hJ _ hY h0 =>
 tokens1_in s hs l Bs n₀ J Jx W hn ((hW.block Bs hsrc.lt).trans hsrc) (hG.below hW) hJ hY h0
theorem Mill.lt_of_some {w:World} {k:Nat} {o:Obj} (h:w.heap[k]? = some o):k < w.heap.size:=(Array.getElem?_eq_some_iff.1 h).1
theorem Mill.kp_below {n₀:Nat} {W W':World} (hb:Below W.heap.size W W') (hn:n₀≤W.heap.size):Mill.Kp n₀ W W' :=
 ⟨hb.mono hn,⟨hb.size,fun k _ hk _=>(hb.block k (Mill.lt_of_some hk)).trans hk⟩,fun k _ _ hk=>hb.block k (Mill.lt_of_some hk),fun k _ _ hk=>hb.block k (Mill.lt_of_some hk)⟩
theorem Mill.from_below {B:Nat} {W W':World} (hb:Below W.heap.size W W'):KeepsFrom B W W' :=
 ⟨hb.size,fun k _ _ hk _=>(hb.block k (Mill.lt_of_some hk)).trans hk⟩
theorem Mill.blk_own {β:Type} (B:Nat) (f:β→Array Value) (t:TypeId):Own (fun (s:β) W=>W.heap[B]? = some (.cells (f s) t (0,0))):=fun s X Y row hs hg hrow=>by
 refine (hg.block B (Mill.lt_of_some hs) (fun e' => ?_)).trans hs
 obtain ⟨o,ho,hc⟩:=hrow B e'.symm
 rw [hs] at ho;cases ho;cases hc
theorem Mill.set_blk {w:World} {B o:Nat} {c:Array Value} {t:TypeId} {fz:Nat × Nat} (h:w.heap[B]? = some (.cells c t fz)) (v:Value):(w.setCell ⟨B,o,none⟩ v).heap[B]? = some (.cells (c.setIfInBounds o v) t fz):=by
 simp [World.setCell,Array.getElem?_modify,h]
theorem Mill.set_blk_other {w:World} {B B' o:Nat} {x:Obj} (h:w.heap[B]? = some x) (hne:B≠B') (v:Value):(w.setCell ⟨B',o,none⟩ v).heap[B]? = some x:=by
 simp [World.setCell,Array.getElem?_modify,Ne.symm hne,h]
theorem Mill.blk_cell {w:World} {B:Nat} {c:Array Value} {t:TypeId} {fz:Nat × Nat} (h:w.heap[B]? = some (.cells c t fz)) (o:Nat):w.cell? ⟨B,o,none⟩=c[o]?:=by
 simp [World.cell?,h]
theorem Mill.blk_frozen {w:World} {B:Nat} {c:Array Value} {t:TypeId} (h:w.heap[B]? = some (.cells c t (0,0))) (o:Nat):w.frozen? ⟨B,o,none⟩=false:=by
 simp [World.frozen?,h]
theorem Mill.fin_all : ∀ (l acc:List (Mill.Piece × Nat)),(∀ x ∈ l,x.1.code=0)→Mill.fin acc l=(acc++l,0,0)
 | [],acc,_=>by rw [Mill.fin];simp
 | x::r,acc,h=>by
  rw [Mill.fin,if_neg (by simpa using h x (by simp)),Mill.fin_all r _ (fun y hy=>h y (by simp [hy]))];simp
theorem Mill.fin_bad : ∀ (p acc:List (Mill.Piece × Nat)) (x:Mill.Piece × Nat) (r:List (Mill.Piece × Nat)),(∀ y ∈ p,y.1.code=0)→x.1.code≠0→Mill.fin acc (p++x::r)=([],x.1.code,x.2)
 | [],acc,x,r,_,hx=>by rw [List.nil_append,Mill.fin,if_pos hx]
 | y::p,acc,x,r,h,hx=>by
  rw [List.cons_append,Mill.fin,if_neg (by simpa using h y (by simp)),Mill.fin_bad p _ x r (fun z hz=>h z (by simp [hz])) hx]
theorem Mill.scan_fin (s:ByteArray) (hs:s.size≤12000):Mill.scan s=Mill.fin [] (Mill.seq s):=by
 rw [Mill.scan,if_neg (by omega),Mill.scan_seq];rfl
theorem Mill.kept_type {W w1:World} {n₀ B k T:Nat} {v v' u:Value} {xs:List Value} {tmp:Obj} (hT:T≠41) (hT2:T≠33) (hrow:W.ownsRow n₀ 41 5 v k xs) (hv:Boxed W B 33 u) (hg:(W.alloc tmp).grownBy w1 v.ownBlock)
  (i:Nat) (c:Array Value) (fz:Nat × Nat) (hi:W.heap[i]? = some (.cells c T fz)):(w1.setCell ⟨B,0,none⟩ v').heap[i]? = W.heap[i]?:=by
 have hlt:=Mill.lt_of_some hi
 have hne:i≠B:=fun e=>by subst e;rw [show W.heap[i]? = _ from hv] at hi;cases hi;exact hT2 rfl
 have h1:w1.heap[i]? = W.heap[i]?:=by
  refine (hg.block i (by simp;omega) (fun e => ?_)).trans (Below.heap_alloc W tmp i hlt)
  rcases hrow.2 with ⟨rfl,_⟩ | ⟨g,cap,cur,rfl,_,hgb,_⟩
  ·simp [Value.ownBlock] at e
  ·obtain rfl:i=g:=by simpa [Value.ownBlock] using e
   rw [hgb] at hi;cases hi;exact hT rfl
 rw [hi] at h1
 rw [hi];exact Mill.set_blk_other h1 hne v'
theorem Mill.kp_walks {A B:World} (h:KeepsOthers A B):KeepsWalks A B:=⟨h.size,fun k o hk ho=>h.same k o hk (Obj.not_cells_of_walk ho)⟩
theorem Mill.tok5_new (w:World) (a b c d e:Value) (t:TypeId) (j:Nat) (u:Value) (h:[a,b,c,d,e][j]? = some u):(w.alloc (.cells #[a,b,c,d,e] t)).cell? ((⟨w.heap.size,0,none⟩:Addr).add j)=some u :=
 Mill.cell_new w #[a,b,c,d,e] t j u h
theorem Mill.own_slice {w:World} {B e size n:Nat} {v:Value} {xs:List Value} (h:w.ownsRow B e size v n xs):∃ a m c,v = .slice a m c:=by
 rcases h.2 with ⟨rfl,_⟩ | ⟨g,cap,cur,rfl,_⟩
 ·exact ⟨_,_,_,rfl⟩
 ·exact ⟨_,_,_,rfl⟩
theorem Mill.own_heap {w w':World} {B e size n:Nat} {v:Value} {xs:List Value} (h:w.ownsRow B e size v n xs) (hk:∀ (g:Nat) (cur:Array Value),w.heap[g]? = some (Obj.cells cur e (0,0))→w'.heap[g]? = some (Obj.cells cur e (0,0))):w'.ownsRow B e size v n xs:=by
 refine ⟨h.1, ?_⟩
 rcases h.2 with h2 | ⟨g,cap,cur,h1,h2,h3,h4⟩
 ·exact .inl h2
 ·exact .inr ⟨g,cap,cur,h1,h2,hk g cur h3,h4⟩
def Mill.tokBox (W:World) (B:Nat) (x:Mill.Piece × Nat):Prop:=W.heap[B]? = some (.cells #[.int .i64 x.1.kind,.string (Mill.ba x.1.text),.int .i64 x.1.type,.int .i64 x.1.n,.int .i64 (x.2:Int)] 41 (0,0))
def Mill.Inv (w:World) (pre:List (Mill.Piece × Nat)) (W:World):Prop :=
 ((((∀ x ∈ pre,x.1.code=0)∧(∃ v,Boxed W (w.heap.size+2) 33 v∧W.ownsRow w.heap.size 41 5 v pre.length (Mill.tokCs pre)∧True))∧Boxed W w.heap.size 33 (.slice none 0 0))∧W.heap[w.heap.size+1]? = some (.cells #[.int .i64 0,.int .i64 0] 26 (0,0)))∧Below w.heap.size w W
def Mill.InvX (w:World) (c:Code) (pre:List (Mill.Piece × Nat)) (W:World):Prop :=
 ((c = .ret∧∃ p x,(pre=p++[x]∧(∀ y ∈ p,y.1.code=0)∧x.1.code≠0)∧W.heap[w.heap.size+1]? = some (.cells #[.int .i64 x.1.code,.int .i64 (x.2:Int)] 26 (0,0)))∧Boxed W w.heap.size 33 (.slice none 0 0))∧Below w.heap.size w W
theorem Mill.inv_own (w:World) (B:Nat) (hB:w.heap.size≤B):OwnFrom B (Mill.Inv w) :=
 OwnFrom.and (OwnFrom.and (OwnFrom.and (OwnFrom.and (ownFrom_pure _ _) (Own.from (holdsRow_own _ _ _ _ _ _ _ (fun _ _=>True)) _)) (Own.from (boxed_own _ _ _) _)) (Own.from (Mill.blk_own _ (fun _ => #[.int .i64 0,.int .i64 0]) _) _)) (ownFrom_below (Nat.le_refl _) hB)
theorem Mill.invX_own (w:World) (c:Code) (B:Nat) (hB:w.heap.size≤B):OwnFrom B (Mill.InvX w c) :=
 OwnFrom.and (OwnFrom.and (fun s W W' row hs hg hr=>by
  obtain ⟨hc,p,x,h1,h2⟩:=hs
  exact ⟨hc,p,x,h1,Mill.blk_own (w.heap.size+1) (fun (_:Unit) => #[.int .i64 x.1.code,.int .i64 (x.2:Int)]) 26 () W W' row h2 hg (fun r e=>(hr r e).2)⟩) (Own.from (boxed_own _ _ _) _)) (ownFrom_below (Nat.le_refl _) hB)
theorem implScan_in (s:ByteArray) (hs:s.size≤12000) (w:World) (hG:Mill.Globs w) :
  CallsIn Fence.wide 3 Tryz.prog 15 #[.string s] w (Mill.ScanPost w (Mill.scan s)):=by
 obtain ⟨i0,hi,hz0,hz1,hz2⟩:=info_parts Tryz.infoTok
 have hbig:=hG.big
 have hlen:(Mill.seq s).length≤s.size+1:=Mill.seq_len _ _ _
 refine callsIn_of_wp_marks Tryz.func15 rfl trivial ?_ rfl
 simp only [Tryz.ntmps15,List.size_toArray,List.length_cons,List.length_nil,Nat.reduceAdd,Nat.reduceSub,Array.replicate_succ,Array.replicate_zero,List.push_toArray,List.append_toArray,List.nil_append,List.cons_append]
 gi_wp2_with ((with_reducible refine And.intro ?_ ?_);exact trivial;gi_at_call 31;refine (tokens_in _ _ _).mono ?_;rintro e w' ⟨rfl,rfl⟩)
 have bR:=(((Boxed.new w 33 (.slice none 0 0)).alloc (.cells #[.int .i64 0,.int .i64 0] 26)).alloc (.cells #[.slice none 0 0] 33)).alloc (.cells #[.string s] 9)
 have bL:=(Boxed.new ((w.alloc (.cells #[.slice none 0 0] 33)).alloc (.cells #[.int .i64 0,.int .i64 0] 26)) 33 (.slice none 0 0)).alloc (.cells #[.string s] 9)
 have bS:=Boxed.new (((w.alloc (.cells #[.slice none 0 0] 33)).alloc (.cells #[.int .i64 0,.int .i64 0] 26)).alloc (.cells #[.slice none 0 0] 33)) 9 (.string s)
 have bF:((((w.alloc (.cells #[.slice none 0 0] 33)).alloc (.cells #[.int .i64 0,.int .i64 0] 26)).alloc (.cells #[.slice none 0 0] 33)).alloc (.cells #[.string s] 9)).heap[w.heap.size+1]? = some (.cells #[.int .i64 0,.int .i64 0] 26 (0,0)):=by
  have h:=World.alloc_heap_new (w.alloc (.cells #[.slice none 0 0] 33)) (.cells #[.int .i64 0,.int .i64 0] 26)
  rw [World.size_alloc] at h
  exact (Below.heap_alloc _ _ _ (by simp)).trans ((Below.heap_alloc _ _ _ (by simp)).trans h)
 have hB0:Below w.heap.size w ((((w.alloc (.cells #[.slice none 0 0] 33)).alloc (.cells #[.int .i64 0,.int .i64 0] 26)).alloc (.cells #[.slice none 0 0] 33)).alloc (.cells #[.string s] 9)):=((((Below.refl _ w).alloc (Nat.le_refl _) _).alloc (by simp) _).alloc (by simp;omega) _).alloc (by simp;omega) _
 have hsz:((((w.alloc (.cells #[.slice none 0 0] 33)).alloc (.cells #[.int .i64 0,.int .i64 0] 26)).alloc (.cells #[.slice none 0 0] 33)).alloc (.cells #[.string s] 9)).heap.size=w.heap.size+4:=by simp
 simp only [World.size_alloc] at bL bS
 obtain ⟨W0,hW0⟩:∃ W0,(((w.alloc (.cells #[.slice none 0 0] 33)).alloc (.cells #[.int .i64 0,.int .i64 0] 26)).alloc (.cells #[.slice none 0 0] 33)).alloc (.cells #[.string s] 9)=W0:=⟨_,rfl⟩
 rw [hW0] at bR bL bS bF hB0 hsz ⊢
 clear hW0
 have hG0:Mill.Globs W0:=hG.below hB0
 refine wpIn_rangeFunc_ownH (F:=Fence.wide) (n:=3) rfl (by omega) (gf:=56) (lb := #[.pointer (some ⟨w.heap.size+1+1+1,0,none⟩)]) rfl trivial (enters_of Tryz.func56 (by kernel_rfl) rfl)
  (tokens_stops s hs (w.heap.size+1+1+1) w.heap.size W0 hbig bS hG0) (fun h k=>h.trans k) (fun W l o o' hl h hc hw=>Mill.Kp.put (w:=W0) (by omega) W l o o' hl h hc hw) (Below.refl _ _) (fun _=>rfl)
  (Mill.Inv w) (Mill.InvX w) (Mill.inv_own w _ (by omega)) (fun c=>Mill.invX_own w c _ (by omega))
  ⟨⟨⟨⟨by simp,.slice none 0 0,bL,⟨by simp [Mill.tokCs],.inl ⟨rfl,rfl⟩⟩,trivial⟩,bR⟩,bF⟩,hB0⟩
  (fun x a' W => ∃ Bx,w.heap.size+2 < Bx∧Mill.tokBox W Bx x∧a' = { tmps := #[.string s,undef,.pointer (some ⟨w.heap.size,0,none⟩),.pointer (some ⟨w.heap.size+1,0,none⟩),.pointer (some ⟨w.heap.size+1+1,0,none⟩),.pointer (some ⟨Bx,0,none⟩),.int .i64 x.1.code,.string s,.int .i64 (s.size:Int),.bool (decide (12000 < (s.size:Int))),undef,.string s,.func (.func 56) #[] #[.pointer (some ⟨w.heap.size+1+1+1,0,none⟩)],.agg #[.int .i64 x.1.kind,.string (Mill.ba x.1.text),.int .i64 x.1.type,.int .i64 x.1.n,.int .i64 (x.2:Int)],.int .i64 x.1.code,undef,undef,undef,undef,undef,undef,undef,undef,undef,undef,undef,undef],defers:=[] })
  (fun x a' _ X Y row hs hg hr=>by obtain ⟨Bx,e1,e2,e3⟩:=hs;exact ⟨Bx,e1,Mill.blk_own Bx (fun (_:Unit) => #[.int .i64 x.1.kind,.string (Mill.ba x.1.text),.int .i64 x.1.type,.int .i64 x.1.n,.int .i64 (x.2:Int)]) 41 () X Y row e2 hg (fun r e=>(hr r e).2),e3⟩)
  ?assign ?body ?done ?stop
 case assign =>
  rintro l pre x W K hI hK
  dsimp only [Mill.encs]
  gi_wp2
  have hb:=(Below.refl _ W).alloc (Nat.le_refl _) (Obj.cells #[.int .i64 x.1.kind,.string (Mill.ba x.1.text),.int .i64 x.1.type,.int .i64 x.1.n,.int .i64 (x.2:Int)] 41)
  have hsW:=hI.2.size
  obtain ⟨v,bL1,_⟩:=hI.1.1.1.2
  have hlt:=bL1.lt
  exact hK _ _ (Mill.from_below hb) (Mill.kp_below hb hsW) ((Mill.inv_own w w.heap.size (Nat.le_refl _)) pre W _ none hI (Mill.grown_none hb) (fun r e=>by cases e)) ⟨W.heap.size,hlt,World.alloc_heap_new W _,rfl⟩
 case body =>
  rintro l pre x a' W hl ⟨r,hr⟩ ⟨⟨⟨⟨hp,v,bL1,hrow,-⟩,bR1⟩,bF1⟩,hB1⟩ ⟨Bx,hBx,bX,rfl⟩ hlt
  have hsW:=hB1.size
  have cL:=bL1.cell
  have fL:=bL1.frozen
  have cR:=bR1.cell
  have fR:=bR1.frozen
  have cF0:W.cell? ⟨w.heap.size+1,0,none⟩=some (.int .i64 0):=Mill.blk_cell bF1 0
  have cF1:W.cell? ⟨w.heap.size+1,1,none⟩=some (.int .i64 0):=Mill.blk_cell bF1 1
  have fF0:=Mill.blk_frozen bF1 0
  have fF1:=Mill.blk_frozen bF1 1
  have x0:W.cell? ⟨Bx,0,none⟩=some (.int .i64 x.1.kind):=Mill.blk_cell bX 0
  have x1:W.cell? ⟨Bx,1,none⟩=some (.string (Mill.ba x.1.text)):=Mill.blk_cell bX 1
  have x2:W.cell? ⟨Bx,2,none⟩=some (.int .i64 x.1.type):=Mill.blk_cell bX 2
  have x3:W.cell? ⟨Bx,3,none⟩=some (.int .i64 x.1.n):=Mill.blk_cell bX 3
  have x4:W.cell? ⟨Bx,4,none⟩=some (.int .i64 (x.2:Int)):=Mill.blk_cell bX 4
  by_cases hc:x.1.code=0
  ·have hcb:(x.1.code != 0)=false:=by simp [hc]
   gi_wp2_with (gi_at_builtin;refine wpListIn_append_own _ rfl _ _ 33 rfl w.heap.size 41 i0 (.agg #[.int .i64 0,.string ByteArray.empty,.int .i64 0,.int .i64 0,.int .i64 0]) 5 48 Tryz.underlying33 hi hz0 hz1 hz2 rfl (by decide) _ _ _ rfl (hrow.alloc _) ⟨W.heap.size,0,none⟩ 1 1 [.int .i64 x.1.kind,.string (Mill.ba x.1.text),.int .i64 x.1.type,.int .i64 x.1.n,.int .i64 (x.2:Int)] rfl rfl (Mill.tok5_new _ _ _ _ _ _ _) (fun x hx=>by simp at hx;rcases hx with rfl | rfl | rfl | rfl | rfl <;> rfl) (by unfold maxLen;omega) (by omega) (by simp;omega) ?_;intro v' w3 hown' hg3 hnil3;obtain ⟨b1,b2,b3,b4,b5⟩:=Boxed.appended (B:=w.heap.size+2) bL1 (by decide) hrow hsW (by omega) hown' hg3;have c3:=b1.cell;have f3:=b1.frozen;obtain ⟨g',cap',rfl⟩:=ownsRow_succ hown')
   have hR3:=(((bR1.alloc (.cells #[.int .i64 x.1.kind,.string (Mill.ba x.1.text),.int .i64 x.1.type,.int .i64 x.1.n,.int .i64 (x.2:Int)] 41)).kept hg3 (bR1.not_row (by decide) hrow)).other (B':=w.heap.size+2) (by omega) (.slice (some ⟨g',0,none⟩) (pre.length+1) cap'))
   have hF3:=(Mill.kept_type (v':=.slice (some ⟨g',0,none⟩) (pre.length+1) cap') (by decide) (by decide) hrow bL1 hg3 _ _ _ bF1).trans bF1
   refine ⟨b4.from _,⟨b5,Mill.kp_walks b4,Mill.kept_type (by decide) (by decide) hrow bL1 hg3,Mill.kept_type (by decide) (by decide) hrow bL1 hg3⟩,⟨⟨⟨⟨fun y hy => ?_,_,b2, ?_,trivial⟩,hR3⟩,hF3⟩,hB1.trans b5⟩⟩
   ·rcases List.mem_append.1 hy with h | h
    ·exact hp y h
    ·simp at h;rw [h];exact hc
   ·rw [Mill.tokCs_snoc,List.length_append];exact b3
  ·have hcb:(x.1.code != 0)=true:=by simp [hc]
   gi_wp2
   gi_region
   all_goals gi_wp2
   all_goals (
    refine ⟨((((KeepsOthers.setCell _ _ _).trans (KeepsOthers.setCell _ _ _)).trans (KeepsOthers.setCell _ _ _)).trans (KeepsOthers.drew _)).from _,⟨⟨⟨rfl,pre,x,⟨rfl,hp,hc⟩, ?_⟩, ?_⟩,(((hB1.setCell (p:=⟨w.heap.size,0,none⟩) (by simp) _).setCell (p:=⟨w.heap.size+1,0,none⟩) (by simp) _).setCell (p:=⟨w.heap.size+1,1,none⟩) (by simp) _).drew⟩⟩
    ·have h:=Mill.set_blk (o:=1) (Mill.set_blk (o:=0) (Mill.set_blk_other (B':=w.heap.size) (o:=0) bF1 (by omega) (.slice none 0 0)) (.int .i64 x.1.code)) (.int .i64 (x.2:Int))
     show (World.setCell (World.setCell (World.setCell W _ _) _ _) _ _).heap[w.heap.size+1]? = some _
     simpa using h
    ·exact Mill.set_blk_other (Mill.set_blk_other (bR1.set (.slice none 0 0)) (by omega) _) (by omega) _)
 case done =>
  rintro D xs W hD rfl ⟨⟨⟨⟨hp,v,bL1,hrow,-⟩,bR1⟩,bF1⟩,hB1⟩ hK
  obtain ⟨va,vn,vc,rfl⟩:=Mill.own_slice hrow
  have cL:=bL1.cell
  have fL:=bL1.frozen
  have cR:=bR1.cell
  have fR:=bR1.frozen
  have cF0:W.cell? ⟨w.heap.size+1,0,none⟩=some (.int .i64 0):=Mill.blk_cell bF1 0
  have cF1:W.cell? ⟨w.heap.size+1,1,none⟩=some (.int .i64 0):=Mill.blk_cell bF1 1
  have fF0:=Mill.blk_frozen bF1 0
  have fF1:=Mill.blk_frozen bF1 1
  gi_wp2
  have hK':=(((KeepsOthers.setCell W ⟨w.heap.size,0,none⟩ (.slice va vn vc)).trans (KeepsOthers.setCell _ ⟨w.heap.size+1,0,none⟩ (.int .i64 0))).trans (KeepsOthers.setCell _ ⟨w.heap.size+1,1,none⟩ (.int .i64 0))).same D _ hK rfl
  have hb3:=((hB1.setCell (p:=⟨w.heap.size,0,none⟩) (by simp) (.slice va vn vc)).setCell (p:=⟨w.heap.size+1,0,none⟩) (by simp) (.int .i64 0)).setCell (p:=⟨w.heap.size+1,1,none⟩) (by simp) (.int .i64 0)
  have r0:(((W.setCell ⟨w.heap.size,0,none⟩ (.slice va vn vc)).setCell ⟨w.heap.size+1,0,none⟩ (.int .i64 0)).setCell ⟨w.heap.size+1,1,none⟩ (.int .i64 0)).heap[w.heap.size]? = some (.cells #[.slice va vn vc] 33 (0,0)):=Mill.set_blk_other (Mill.set_blk_other (bR1.set (.slice va vn vc)) (by omega) _) (by omega) _
  have r1:(((W.setCell ⟨w.heap.size,0,none⟩ (.slice va vn vc)).setCell ⟨w.heap.size+1,0,none⟩ (.int .i64 0)).setCell ⟨w.heap.size+1,1,none⟩ (.int .i64 0)).heap[w.heap.size+1]? = some (.cells #[.int .i64 0,.int .i64 0] 26 (0,0)):=by
   have h:=Mill.set_blk (o:=1) (Mill.set_blk (o:=0) (Mill.set_blk_other (B':=w.heap.size) (o:=0) bF1 (by omega) (.slice va vn vc)) (.int .i64 0)) (.int .i64 0)
   simpa using h
  have ro:(((W.setCell ⟨w.heap.size,0,none⟩ (.slice va vn vc)).setCell ⟨w.heap.size+1,0,none⟩ (.int .i64 0)).setCell ⟨w.heap.size+1,1,none⟩ (.int .i64 0)).ownsRow w.heap.size 41 5 (.slice va vn vc) (Mill.seq s).length (Mill.tokCs (Mill.seq s)) :=
   Mill.own_heap hrow (fun g cur hg=>by
    have n0:g≠w.heap.size:=fun e=>by subst e;rw [show W.heap[w.heap.size]? = _ from bR1] at hg;cases hg
    have n1:g≠w.heap.size+1:=fun e=>by subst e;rw [bF1] at hg;cases hg
    exact Mill.set_blk_other (Mill.set_blk_other (Mill.set_blk_other hg n0 _) n1 _) n1 _)
  generalize ((W.setCell ⟨w.heap.size,0,none⟩ (.slice va vn vc)).setCell ⟨w.heap.size+1,0,none⟩ (.int .i64 0)).setCell ⟨w.heap.size+1,1,none⟩ (.int .i64 0)=W1 at *
  refine ⟨by simp,.inl ⟨_,_,rfl,run_takeDeferred hK', ?_⟩⟩
  have q0:(W1.putObj D (.deferred none)).cell? ⟨w.heap.size,0,none⟩=some (.slice va vn vc):=Mill.blk_cell ((World.putObj_heap_other (by omega)).trans r0) 0
  have q1:(W1.putObj D (.deferred none)).cell? ⟨w.heap.size+1,0,none⟩=some (.int .i64 0):=Mill.blk_cell ((World.putObj_heap_other (by omega)).trans r1) 0
  have q2:(W1.putObj D (.deferred none)).cell? ⟨w.heap.size+1,1,none⟩=some (.int .i64 0):=Mill.blk_cell ((World.putObj_heap_other (by omega)).trans r1) 1
  refine ⟨.tuple #[.slice va vn vc,.agg #[.int .i64 0,.int .i64 0]],by simp [results,Tryz.f15,go_sem,q0,q1,q2], ?_⟩
  rw [Mill.scan_fin s hs,Mill.fin_all _ _ hp]
  exact ⟨_,rfl,ownsRow_putObj ro _ hK' rfl,hb3.trans (belowK_b (w:=w) (Nat.le_refl _) W1 D _ _ (by omega) hK' rfl rfl)⟩
 case stop =>
  rintro D c pre W hD hpre ⟨⟨⟨rfl,p,x,⟨rfl,hp,hx⟩,bF1⟩,bR1⟩,hB1⟩ hK
  have cR:=bR1.cell
  have cF0:W.cell? ⟨w.heap.size+1,0,none⟩=some (.int .i64 x.1.code):=Mill.blk_cell bF1 0
  have cF1:W.cell? ⟨w.heap.size+1,1,none⟩=some (.int .i64 (x.2:Int)):=Mill.blk_cell bF1 1
  gi_wp2
  refine ⟨by simp,.inl ⟨_,_,rfl,run_takeDeferred hK, ?_⟩⟩
  have q0:(W.putObj D (.deferred none)).cell? ⟨w.heap.size,0,none⟩=some (.slice none 0 0):=Mill.blk_cell ((World.putObj_heap_other (by omega)).trans bR1) 0
  have q1:(W.putObj D (.deferred none)).cell? ⟨w.heap.size+1,0,none⟩=some (.int .i64 x.1.code):=Mill.blk_cell ((World.putObj_heap_other (by omega)).trans bF1) 0
  have q2:(W.putObj D (.deferred none)).cell? ⟨w.heap.size+1,1,none⟩=some (.int .i64 (x.2:Int)):=Mill.blk_cell ((World.putObj_heap_other (by omega)).trans bF1) 1
  refine ⟨.tuple #[.slice none 0 0,.agg #[.int .i64 x.1.code,.int .i64 (x.2:Int)]],by simp [results,Tryz.f15,go_sem,q0,q1,q2], ?_⟩
  obtain ⟨rest,hrest⟩:=hpre
  rw [Mill.scan_fin s hs,← hrest,List.append_assoc,List.singleton_append,Mill.fin_bad _ _ _ _ hp hx]
  exact ⟨_,rfl,⟨rfl,.inl ⟨rfl,rfl⟩⟩,hB1.trans (belowK_b (w:=w) (Nat.le_refl _) W D _ _ (by omega) hK rfl rfl)⟩
theorem implScan_long (s:ByteArray) (hs:12000 < s.size) (w:World) :
  Calls Tryz.prog 15 #[.string s] w (Mill.ScanPost w (Mill.scan s)):=by
 have HS:Hid (Mill.scan s=([],1,0)):=by rw [Hid,Mill.scan,if_pos hs]
 go_enter Tryz.func15,Tryz.ntmps15
 go_wp2
 refine bodyPost_ret (v:=.tuple #[.slice none 0 0,.agg #[.int .i64 1,.int .i64 0]]) (by simp [results,Tryz.f15,go_sem]) rfl ?_
 rw [HS.out]
 exact ⟨_,rfl,⟨rfl,.inl ⟨rfl,rfl⟩⟩,((Below.refl _ w).alloc (Nat.le_refl _) _).alloc (by simp) _⟩
theorem implScan_any (s:ByteArray) (w:World) (hG:Mill.Globs w) :
  Calls Tryz.prog 15 #[.string s] w (Mill.ScanPost w (Mill.scan s)):=by
 by_cases h:12000 < s.size
 ·exact implScan_long s h w
 ·exact callsIn_wide.1 (implScan_in s (by omega) w hG)
end Go.Proofs.YtlcckaffhnjneaaGreatDoor
