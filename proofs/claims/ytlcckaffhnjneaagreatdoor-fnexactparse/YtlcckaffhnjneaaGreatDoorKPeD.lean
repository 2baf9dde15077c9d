import Derived.Test.YtlcckaffhnjneaaGreatDoorKPcV
import Derived.Test.YtlcckaffhnjneaaGreatDoorKPeA
import Derived.Test.YtlcckaffhnjneaaGreatDoorKPaX
import Derived.Test.YtlcckaffhnjneaaGreatDoorKTreeZG
import Derived.Test.YtlcckaffhnjneaaGreatDoorKTreeZM
import Derived.Laws.StructEq
import Derived.Deep.RegionLaw
import Derived.Deep.RegionHeld3
import Derived.Test.YtlcckaffhnjneaaGreatDoorKPdE
set_option maxRecDepth 100000
set_option maxHeartbeats 2000000
namespace Go.Proofs.YtlcckaffhnjneaaGreatDoor
open Go.RowKit
structure Pa.Tg (w:World):Prop where
 t:w.rangeAt 1 0 Pa.tC
 u:w.rangeAt 7 0 Pa.uC
 b:w.rangeAt 6 0 Pa.bC
 d:w.rangeAt 2 0 Pa.wC
 gt:1 < w.heap.size∧7 < w.heap.size∧6 < w.heap.size∧2 < w.heap.size
 gr:Mill.Greats w
 bu:Mill.Builts w
theorem Pa.Tg.below {w w':World} (h:Pa.Tg w) (hb:Below w.heap.size w w'):Pa.Tg w':=by
 obtain ⟨h1,h2,h3,h4⟩:=h.gt
 have hs:=hb.size
 exact ⟨fun j v hv=>(hb.cell (by exact h1)).trans (h.t j v hv),fun j v hv=>(hb.cell (by exact h2)).trans (h.u j v hv),fun j v hv=>(hb.cell (by exact h3)).trans (h.b j v hv),fun j v hv=>(hb.cell (by exact h4)).trans (h.d j v hv),⟨by omega,by omega,by omega,by omega⟩,h.gr.below hb,h.bu.below hb⟩
theorem Pa.Tg.tb {w w':World} {g:Nat} (h:Pa.Tg w) (hb:Below w.heap.size w w') (h1:w.heap.size≤g) (h2:g < w'.heap.size):Pa.Tb g w':=by
 have k:=h.below hb
 obtain ⟨g1,g2,g3,g4⟩:=h.gt
 exact ⟨k.t,k.u,k.b,k.d,⟨by omega,by omega,by omega,by omega⟩,h2⟩
theorem Pa.eq_flt (a b x y:Int) (w:World):(Op.equalIn 10000 26 (.agg #[.int .i64 a,.int .i64 b]) (.agg #[.int .i64 x,.int .i64 y])).run Tryz.prog w = .ok (a == x && b == y) w:=by
 have u3:=Tryz.underlying3
 have hS:Tryz.prog.underlying 26=some (.struct (Tryz.prog.fieldsOf 26)):=by kernel_rfl
 have hp:Tryz.prog.stoodInHeld 26=false:=by kernel_rfl
 rw [show (10000:Nat)=9999+1 from rfl,run_equalIn_agg w 9999 26 _ _ hS hp]
 simp only [Program.fieldsOf,Tryz.underlying26]
 go_simp
 by_cases h1:a=x <;> by_cases h2:b=y <;> simp [h1,h2]
theorem Pa.guard_flt : Tryz.prog.eqGuardType Tryz.prog.depth 26=false:=by kernel_rfl
structure Pa.Pw (w:World) (W:World) (a:Option Addr) (n c:Nat) (y0 y1:Int):Prop where
 B:Below w.heap.size w W
 tr:W.heap[w.heap.size]? = some (.cells #[.slice a n c] 24)
 fa:W.heap[w.heap.size+1]? = some (.cells #[.int .i64 y0,.int .i64 y1] 26)
variable {w W W2:World} {a:Option Addr} {n c:Nat} {y0 y1:Int}
theorem Pa.Pw.below (h:Pa.Pw w W a n c y0 y1) (hb:Below W.heap.size W W2):Pa.Pw w W2 a n c y0 y1 :=
 ⟨h.B.trans (hb.mono h.B.size),(hb.block _ (Array.getElem?_eq_some_iff.1 h.tr).1).trans h.tr,(hb.block _ (Array.getElem?_eq_some_iff.1 h.fa).1).trans h.fa⟩
theorem Pa.Pw.cells (h:Pa.Pw w W a n c y0 y1):W.cell? ⟨w.heap.size,0,none⟩=some (.slice a n c)∧W.cell? ⟨w.heap.size+1,0,none⟩=some (.int .i64 y0)∧W.cell? ⟨w.heap.size+1,1,none⟩=some (.int .i64 y1)∧(∀ k,W.frozen? ⟨w.heap.size,k,none⟩=false)∧∀ k,W.frozen? ⟨w.heap.size+1,k,none⟩=false:=by
 have h1:=h.tr
 have h2:=h.fa
 refine ⟨?_, ?_, ?_,fun k => ?_,fun k => ?_⟩
 ·rw [Lib.cell_of_heap h1];rfl
 ·rw [Lib.cell_of_heap h2];rfl
 ·rw [Lib.cell_of_heap h2];rfl
 ·simp [World.frozen?,h1]
 ·simp [World.frozen?,h2]
theorem Pa.Pw.tree (h:Pa.Pw w W a n c y0 y1) (a':Option Addr) (n' c':Nat):Pa.Pw w (W.setCell ⟨w.heap.size,0,none⟩ (.slice a' n' c')) a' n' c' y0 y1 :=
 ⟨h.B.setCell (Nat.le_refl _) _,by simp [World.setCell,Array.getElem?_modify,h.tr],(Below.heap_setCell _ _ _ _ (by simp)).trans h.fa⟩
theorem Pa.Pw.flt (h:Pa.Pw w W a n c y0 y1) (z0 z1:Int):Pa.Pw w ((W.setCell ⟨w.heap.size+1,0,none⟩ (.int .i64 z0)).setCell ⟨w.heap.size+1,1,none⟩ (.int .i64 z1)) a n c z0 z1 :=
 ⟨(h.B.setCell (by simp) _).setCell (by simp) _,((Below.heap_setCell _ _ _ _ (by simp)).trans (Below.heap_setCell _ _ _ _ (by simp))).trans h.tr,by simp [World.setCell,Array.getElem?_modify,h.fa]⟩
theorem Pa.Pw.start (w:World):Pa.Pw w ((w.alloc (.cells #[.slice none 0 0] 24)).alloc (.cells #[.int .i64 0,.int .i64 0] 26)) none 0 0 0 0:=by
 have hb2:Below (w.alloc (.cells #[.slice none 0 0] 24)).heap.size (w.alloc (.cells #[.slice none 0 0] 24)) ((w.alloc (.cells #[.slice none 0 0] 24)).alloc (.cells #[.int .i64 0,.int .i64 0] 26)):=(Below.refl _ _).alloc (Nat.le_refl _) _
 have h1:=heap_alloc_new w (.cells #[.slice none 0 0] 24)
 have h2:=heap_alloc_new (w.alloc (.cells #[.slice none 0 0] 24)) (.cells #[.int .i64 0,.int .i64 0] 26)
 rw [World.size_alloc] at h2
 exact ⟨((Below.refl _ _).alloc (Nat.le_refl _) _).alloc (by simp) _,(hb2.block _ (by simp)).trans h1,h2⟩
theorem Pa.implParse_bad (src:ByteArray) (w:World) (r:List (Mill.Piece × Nat) × Int × Nat) (h0:r.2.1≠0) (hs:∀ W,Below w.heap.size w W→Calls Tryz.prog 15 #[.string src] W fun e w'=>Mill.ScanPost W r e w') :
  Calls Tryz.prog 5 #[.string src] w (Pa.Post (.no r.2.1 r.2.2) w):=by
 have hmf:∀ (fn:Fn) (first cap:Array Value) (w:World),(Instr.makeFunc fn first cap).run Tryz.prog w = .ok (.func fn first cap) w:=fun _ _ _ _=>rfl
 have HS:Hid (∀ W,Below w.heap.size w W→Calls Tryz.prog 15 #[.string src] W fun e w'=>Mill.ScanPost W r e w'):=hs
 obtain ⟨C,hC⟩:∃ C,r.2.1=C:=⟨_,rfl⟩
 obtain ⟨P,hP⟩:∃ P,r.2.2=P:=⟨_,rfl⟩
 rw [hC] at h0 ⊢
 rw [hP]
 clear hs
 go_enter_defers Tryz.func5,Tryz.ntmps5
 have hC0:=Pa.Pw.start w
 have hq:=Pa.eq_flt
 have hgd:=Pa.guard_flt
 have h0b:(C == 0)=false:=by simpa using h0
 go_wp2_with (go_at_call 15;refine (HS.out _ hC0.B).mono ?_;rintro e W1 ⟨v,rfl,hown,hb⟩;rw [hC,hP];simp only [Mill.faultV];obtain ⟨va,vc,rfl⟩:=Pa.rowLen hown;replace hC0:=hC0.below hb;obtain ⟨c0,c1,c2,f0,f1⟩:=hC0.cells;have hC1:=hC0.flt C P;obtain ⟨d0,d1,d2,e0,e1⟩:=hC1.cells)
 obtain ⟨V,hV⟩:∃ V,(W1.setCell ⟨w.heap.size+1,0,none⟩ (.int .i64 C)).setCell ⟨w.heap.size+1,1,none⟩ (.int .i64 P)=V:=⟨_,rfl⟩
 rw [hV] at hC1 d0 d1 d2 e0 e1 ⊢
 clear hC0 c0 c1 c2 f0 f1
 have hC2:=((hC1.tree none 0 0).flt C P).below (Pa.below_drew (Below.refl _ _))
 obtain ⟨k0,k1,k2,_,_⟩:=hC2.cells
 go_region
 all_goals
  go_wp2_with fail
  refine leaves_cons (f:=13) (args := #[.pointer (some ⟨w.heap.size,0,none⟩),.pointer (some ⟨w.heap.size+1,0,none⟩)]) (by simp) (by simp [go_sem]) ?_
  refine (Pa.catch_idle _ _ _).mono ?_
  rintro e u' w'' ⟨rfl,rfl,rfl⟩
  generalize World.drew _=V2 at *
  simp [Leaves,settle,results,Tryz.results5,go_sem,k0,k1,k2]
  exact ⟨hC2.B,rfl⟩
variable {w W W2:World} {a:Option Addr} {n c:Nat} {y0 y1:Int}
theorem Pa.Pw.fr {g:Nat} (h:Pa.Pw w W a n c y0 y1) (hF:Pa.Fr g W W2) (hg:w.heap.size+1 < g):Pa.Pw w W2 a n c y0 y1 :=
 ⟨h.B.trans (hF.below h.B.size (by omega)),(hF.keep _ (Array.getElem?_eq_some_iff.1 h.tr).1 (by omega)).trans h.tr,(hF.keep _ (Array.getElem?_eq_some_iff.1 h.fa).1 (by omega)).trans h.fa⟩
def Pa.iends (ts:List (Mill.Piece × Nat)) (n:Nat) (q:Except Nat (List Mill.Tr × Nat)):Pa.Res:=match q with
 | .error k => .no 6 (Pa.atOf ts n k)
 | .ok x=>if Mill.rootOk (Pa.root (Pa.flats x.1) x.1.length) then .yes (Pa.root (Pa.flats x.1) x.1.length) else .no 7 0
theorem Pa.flat_prog (l:List Mill.Tr):Pa.flat (Pa.br 24 0 0 [] l)=Pa.root (Pa.flats l) l.length:=by
 rw [Pa.flat_br,Pa.root];rfl
theorem Pa.P.made {ts:List (Mill.Piece × Nat)} {ta:Option Addr} {tc E:Nat} (htk:Pa.Tks W ta ts W.heap.size) (hl:ts.length≤12000) (hc:ts.length≤tc):Pa.P ts W.heap.size ta tc E 0 (W.alloc (.cells #[.slice ta ts.length tc,.int .i64 0,.int .i64 (E:Int)] 47)) :=
 ⟨heap_alloc_new _ _,htk.keep fun k hk=>((Below.refl _ _).alloc (Nat.le_refl _) _:Below W.heap.size W _).block k hk,Nat.zero_le _,hl,hc⟩
theorem Pa.implParse_err (src:ByteArray) (_hsz:src.size≤9223372036854775807) (ts:List (Mill.Piece × Nat)) (k:Nat) (hq:Pa.iprog ts 50000 [] 0=some (.error k)) (hGd:Pa.Good ts) (hlen:ts.length≤12000) (hT:Pa.Tg w) (hs:∀ W,Below w.heap.size w W→Calls Tryz.prog 15 #[.string src] W fun e w'=>Mill.ScanPost W (ts,0,0) e w') :
  Calls Tryz.prog 5 #[.string src] w (Pa.Post (.no 6 (Pa.atOf ts src.size k)) w):=by
 have hmf:∀ (fn:Fn) (first cap:Array Value) (w:World),(Instr.makeFunc fn first cap).run Tryz.prog w = .ok (.func fn first cap) w:=fun _ _ _ _=>rfl
 have HS:Hid (∀ W,Below w.heap.size w W→Calls Tryz.prog 15 #[.string src] W fun e w'=>Mill.ScanPost W (ts,0,0) e w'):=hs
 have HE:Hid (∀ (g:Nat) (a:Option Addr) (c:Nat) (W:World),Pa.Tb g W→Pa.P ts g a c src.size 0 W→Calls Tryz.prog 17 #[.pointer (some ⟨g,0,none⟩)] W (Pa.AnsG ts g a c src.size (.error k) W)):=fun g a c W hb hp=>Pa.prog_any hGd 50000 _ hq hb hp
 have hC:=Pa.Pw.start w
 have hqq:=Pa.eq_flt
 have hgd:=Pa.guard_flt
 clear hs
 go_enter_defers Tryz.func5,Tryz.ntmps5
 go_wp2_with (first
  | (go_at_call 15;refine (HS.out _ hC.B).mono ?_;rintro e W1 ⟨v,rfl,hown,hb⟩;simp only [Mill.faultV];have hown2:=ownsRow_setCell_below (a:=⟨w.heap.size+1,1,none⟩) (ownsRow_setCell_below (a:=⟨w.heap.size+1,0,none⟩) hown (by simp) (.int .i64 0)) (by simp) (.int .i64 0);obtain ⟨ta,tc,rfl,htc,htk⟩:=Pa.own_tks hown2;replace hC:=hC.below hb;obtain ⟨c0,c1,c2,f0,f1⟩:=hC.cells;have hC1:=hC.flt 0 0;have hs2:w.heap.size+2≤W1.heap.size:=(Array.getElem?_eq_some_iff.1 hC.fa).1;have hsW:((W1.setCell ⟨w.heap.size+1,0,none⟩ (.int .i64 0)).setCell ⟨w.heap.size+1,1,none⟩ (.int .i64 0)).heap.size=W1.heap.size:=(by simp [World.setCell]);obtain ⟨d0,d1,d2,e0,e1⟩:=hC1.cells)
  | (go_at_call 17;obtain ⟨W2,hW2⟩:∃ W2,(W1.setCell ⟨w.heap.size+1,0,none⟩ (.int .i64 0)).setCell ⟨w.heap.size+1,1,none⟩ (.int .i64 0)=W2:=⟨_,rfl⟩;rw [hW2] at hC1 htk hsW d0 d1 d2 e0 e1 ⊢;rw [← hsW] at hs2 ⊢;have hPP:=Pa.P.made (E:=src.size) htk hlen htc;have hb3:Below W2.heap.size W2 (W2.alloc (.cells #[.slice ta ts.length tc,.int .i64 0,.int .i64 (src.size:Int)] 47)):=(Below.refl _ _).alloc (Nat.le_refl _) _;have hC3:=hC1.below hb3;have hTb:=hT.tb hC3.B (Nat.le_trans (Nat.le_succ_of_le (Nat.le_succ _)) hs2) (by simp);refine (HE.out _ _ _ _ hTb hPP).mono ?_;rintro e V ⟨rfl,hF⟩;have hC4:=hC3.fr hF hs2;unfold Pa.pan;unfold Pa.fl))
 obtain ⟨k0,k1,k2,g0,g1⟩:=hC4.cells
 refine leaves_cons (f:=13) (args := #[.pointer (some ⟨w.heap.size,0,none⟩),.pointer (some ⟨w.heap.size+1,0,none⟩)]) (by simp) (by simp [go_sem]) ?_
 refine (Pa.catch_panic _ _ _ _ _ _ _ _ _ _ k0 k1 k2 (g0 0) (g1 0) (g1 1) (by simp)).mono ?_
 rintro e u' w'' ⟨rfl,rfl,W5,hW5,rfl⟩
 have hC5:=((hC4.below hW5).tree none 0 0).flt 6 (Pa.tat ts src.size k:Int)
 obtain ⟨m0,m1,m2,_,_⟩:=hC5.cells
 generalize World.setCell _ _ _=V5 at *
 simp [Leaves,settle,results,Tryz.results5,go_sem,m0,m1,m2]
 exact ⟨hC5.B,rfl⟩
variable {w W W2:World} {a:Option Addr} {n c:Nat} {y0 y1:Int}
theorem Pa.implParse_no (src:ByteArray) (_hsz:src.size≤9223372036854775807) (ts:List (Mill.Piece × Nat)) (x:List Mill.Tr × Nat) (hq:Pa.iprog ts 50000 [] 0=some (.ok x)) (hGd:Pa.Good ts) (hlen:ts.length≤12000) (hT:Pa.Tg w) (hl:(Pa.flat (Pa.br 24 0 0 [] x.1)).length≤1000000) (hx:∀ d ∈ Pa.flat (Pa.br 24 0 0 [] x.1),d.text.size≤1048576) (hro:Mill.rootOk (Pa.flat (Pa.br 24 0 0 [] x.1))=false) (hs:∀ W,Below w.heap.size w W→Calls Tryz.prog 15 #[.string src] W fun e w'=>Mill.ScanPost W (ts,0,0) e w') :
  Calls Tryz.prog 5 #[.string src] w (Pa.Post (.no 7 0) w):=by
 have hmf:∀ (fn:Fn) (first cap:Array Value) (w:World),(Instr.makeFunc fn first cap).run Tryz.prog w = .ok (.func fn first cap) w:=fun _ _ _ _=>rfl
 have HS:Hid (∀ W,Below w.heap.size w W→Calls Tryz.prog 15 #[.string src] W fun e w'=>Mill.ScanPost W (ts,0,0) e w'):=hs
 have HE:Hid (∀ (g:Nat) (a:Option Addr) (c:Nat) (W:World),Pa.Tb g W→Pa.P ts g a c src.size 0 W→Calls Tryz.prog 17 #[.pointer (some ⟨g,0,none⟩)] W (Pa.AnsG ts g a c src.size (.ok x) W)):=fun g a c W hb hp=>Pa.prog_any hGd 50000 _ hq hb hp
 obtain ⟨ns,HN⟩:∃ ns,Hid (Pa.flat (Pa.br 24 0 0 [] x.1)=ns):=⟨_,rfl⟩
 obtain ⟨N,HL⟩:∃ N,Hid (ns.length=N):=⟨_,rfl⟩
 rw [HN.out] at hl hx hro
 have HLI:Hid (∀ (v:Value) (W:World),Pa.Rb 0 W (Pa.br 24 0 0 [] x.1) v→Calls Tryz.prog 16 #[.slice none 0 0,v] W fun e w' => ∃ va vc,e = .returned (.slice va N vc)∧Pa.Row W.heap.size w' (.slice va N vc) ns∧Below W.heap.size W w'):=fun v W hr=>by
  have h2:=Pa.listed_any (Pa.br 24 0 0 [] x.1) v W W.heap.size (Nat.le_refl _) (Mill.Rep.below (fun b h=>h.2) (fun b h=>rfl) _ _ hr) (by rw [HN.out];exact hl)
  rw [HN.out,HL.out] at h2
  exact h2
 have HV:Hid (∀ (v:Value) (W:World),Mill.NodesAt W v ns→Pa.Tg W→Calls Tryz.prog 18 #[.agg #[v]] W fun e w'=>e = .returned (.bool false)∧Below W.heap.size W w'):=fun v W hn ht=>by
  have h2:=implValid_any ns v W hn hx ht.gr ht.bu
  rw [hro] at h2
  exact h2
 have hC:=Pa.Pw.start w
 have hqq:=Pa.eq_flt
 have hgd:=Pa.guard_flt
 clear hs
 go_enter_defers Tryz.func5,Tryz.ntmps5
 go_wp2_with (first
  | (go_at_call 15;refine (HS.out _ hC.B).mono ?_;rintro e W1 ⟨v,rfl,hown,hb⟩;simp only [Mill.faultV];have hown2:=ownsRow_setCell_below (a:=⟨w.heap.size+1,1,none⟩) (ownsRow_setCell_below (a:=⟨w.heap.size+1,0,none⟩) hown (by simp) (.int .i64 0)) (by simp) (.int .i64 0);obtain ⟨ta,tc,rfl,htc,htk⟩:=Pa.own_tks hown2;replace hC:=hC.below hb;obtain ⟨c0,c1,c2,f0,f1⟩:=hC.cells;have hC1:=hC.flt 0 0;have hs2:w.heap.size+2≤W1.heap.size:=(Array.getElem?_eq_some_iff.1 hC.fa).1;have hsW:((W1.setCell ⟨w.heap.size+1,0,none⟩ (.int .i64 0)).setCell ⟨w.heap.size+1,1,none⟩ (.int .i64 0)).heap.size=W1.heap.size:=(by simp [World.setCell]);obtain ⟨d0,d1,d2,e0,e1⟩:=hC1.cells)
  | (go_at_call 17;obtain ⟨W2,hW2⟩:∃ W2,(W1.setCell ⟨w.heap.size+1,0,none⟩ (.int .i64 0)).setCell ⟨w.heap.size+1,1,none⟩ (.int .i64 0)=W2:=⟨_,rfl⟩;rw [hW2] at hC1 htk hsW d0 d1 d2 e0 e1 ⊢;rw [← hsW] at hs2 ⊢;have hPP:=Pa.P.made (E:=src.size) htk hlen htc;have hb3:Below W2.heap.size W2 (W2.alloc (.cells #[.slice ta ts.length tc,.int .i64 0,.int .i64 (src.size:Int)] 47)):=(Below.refl _ _).alloc (Nat.le_refl _) _;have hC3:=hC1.below hb3;have hTb:=hT.tb hC3.B (Nat.le_trans (Nat.le_succ_of_le (Nat.le_succ _)) hs2) (by simp);refine (HE.out _ _ _ _ hTb hPP).mono ?_;rintro e V ⟨ra,rn,rc,rfl,hR,hPt⟩;have hC4:=hC3.fr hPt.2 hs2;have hR0:=hR.mono (Nat.zero_le _);clear d0 d1 d2 e0 e1;obtain ⟨d0,d1,d2,e0,e1⟩:=hC4.cells)
  | (go_at_call 16;refine (HLI.out _ _ hR0).mono ?_;rintro e V5 ⟨va,vc,rfl,hrow,hb5⟩;have hC5:=hC4.below hb5;have hsV:w.heap.size+2≤V.heap.size:=(Array.getElem?_eq_some_iff.1 hC4.fa).1;have hC6:=hC5.tree va N vc;clear d0 d1 d2 e0 e1;obtain ⟨d0,d1,d2,e0,e1⟩:=hC5.cells;have hrow6:=ownsRow_setCell_below (a:=⟨w.heap.size,0,none⟩) hrow (by simp only;omega) (.slice va N vc);obtain ⟨k0,k1,k2,g0,g1⟩:=hC6.cells)
  | (go_at_call 18;refine (HV.out _ _ (Mill.nodesAt_own hrow6) (hT.below hC6.B)).mono ?_;rintro e V7 ⟨rfl,hb7⟩;have hC7:=hC6.below hb7;have hrow7:=Mill.own_below hrow6 hb7;clear k0 k1 k2 g0 g1 d0 d1 d2 e0 e1;obtain ⟨k0,k1,k2,g0,g1⟩:=hC7.cells))
 refine leaves_cons (f:=13) (args := #[.pointer (some ⟨w.heap.size,0,none⟩),.pointer (some ⟨w.heap.size+1,0,none⟩)]) (by simp) (by simp [go_sem]) ?_
 refine (Pa.catch_idle _ _ _).mono ?_
 rintro e u' w'' ⟨rfl,rfl,rfl⟩
 have hC8:=(hC7.tree none 0 0).flt 7 0
 obtain ⟨m0,m1,m2,_,_⟩:=hC8.cells
 generalize World.setCell _ _ _=V8 at *
 simp [Leaves,settle,results,Tryz.results5,go_sem,m0,m1,m2]
 exact ⟨hC8.B,rfl⟩
theorem Pa.implParse_yes (src:ByteArray) (_hsz:src.size≤9223372036854775807) (ts:List (Mill.Piece × Nat)) (x:List Mill.Tr × Nat) (hq:Pa.iprog ts 50000 [] 0=some (.ok x)) (hGd:Pa.Good ts) (hlen:ts.length≤12000) (hT:Pa.Tg w) (hl:(Pa.flat (Pa.br 24 0 0 [] x.1)).length≤1000000) (hx:∀ d ∈ Pa.flat (Pa.br 24 0 0 [] x.1),d.text.size≤1048576) (hro:Mill.rootOk (Pa.flat (Pa.br 24 0 0 [] x.1))=true) (hs:∀ W,Below w.heap.size w W→Calls Tryz.prog 15 #[.string src] W fun e w'=>Mill.ScanPost W (ts,0,0) e w') :
  Calls Tryz.prog 5 #[.string src] w (Pa.Post (.yes (Pa.flat (Pa.br 24 0 0 [] x.1))) w):=by
 have hmf:∀ (fn:Fn) (first cap:Array Value) (w:World),(Instr.makeFunc fn first cap).run Tryz.prog w = .ok (.func fn first cap) w:=fun _ _ _ _=>rfl
 have HS:Hid (∀ W,Below w.heap.size w W→Calls Tryz.prog 15 #[.string src] W fun e w'=>Mill.ScanPost W (ts,0,0) e w'):=hs
 have HE:Hid (∀ (g:Nat) (a:Option Addr) (c:Nat) (W:World),Pa.Tb g W→Pa.P ts g a c src.size 0 W→Calls Tryz.prog 17 #[.pointer (some ⟨g,0,none⟩)] W (Pa.AnsG ts g a c src.size (.ok x) W)):=fun g a c W hb hp=>Pa.prog_any hGd 50000 _ hq hb hp
 obtain ⟨ns,HN⟩:∃ ns,Hid (Pa.flat (Pa.br 24 0 0 [] x.1)=ns):=⟨_,rfl⟩
 obtain ⟨N,HL⟩:∃ N,Hid (ns.length=N):=⟨_,rfl⟩
 rw [HN.out] at hl hx hro ⊢
 have HLI:Hid (∀ (v:Value) (W:World),Pa.Rb 0 W (Pa.br 24 0 0 [] x.1) v→Calls Tryz.prog 16 #[.slice none 0 0,v] W fun e w' => ∃ va vc,e = .returned (.slice va N vc)∧Pa.Row W.heap.size w' (.slice va N vc) ns∧Below W.heap.size W w'):=fun v W hr=>by
  have h2:=Pa.listed_any (Pa.br 24 0 0 [] x.1) v W W.heap.size (Nat.le_refl _) (Mill.Rep.below (fun b h=>h.2) (fun b h=>rfl) _ _ hr) (by rw [HN.out];exact hl)
  rw [HN.out,HL.out] at h2
  exact h2
 have HV:Hid (∀ (v:Value) (W:World),Mill.NodesAt W v ns→Pa.Tg W→Calls Tryz.prog 18 #[.agg #[v]] W fun e w'=>e = .returned (.bool true)∧Below W.heap.size W w'):=fun v W hn ht=>by
  have h2:=implValid_any ns v W hn hx ht.gr ht.bu
  rw [hro] at h2
  exact h2
 have hC:=Pa.Pw.start w
 have hqq:=Pa.eq_flt
 have hgd:=Pa.guard_flt
 clear hs
 go_enter_defers Tryz.func5,Tryz.ntmps5
 go_wp2_with (first
  | (go_at_call 15;refine (HS.out _ hC.B).mono ?_;rintro e W1 ⟨v,rfl,hown,hb⟩;simp only [Mill.faultV];have hown2:=ownsRow_setCell_below (a:=⟨w.heap.size+1,1,none⟩) (ownsRow_setCell_below (a:=⟨w.heap.size+1,0,none⟩) hown (by simp) (.int .i64 0)) (by simp) (.int .i64 0);obtain ⟨ta,tc,rfl,htc,htk⟩:=Pa.own_tks hown2;replace hC:=hC.below hb;obtain ⟨c0,c1,c2,f0,f1⟩:=hC.cells;have hC1:=hC.flt 0 0;have hs2:w.heap.size+2≤W1.heap.size:=(Array.getElem?_eq_some_iff.1 hC.fa).1;have hsW:((W1.setCell ⟨w.heap.size+1,0,none⟩ (.int .i64 0)).setCell ⟨w.heap.size+1,1,none⟩ (.int .i64 0)).heap.size=W1.heap.size:=(by simp [World.setCell]);obtain ⟨d0,d1,d2,e0,e1⟩:=hC1.cells)
  | (go_at_call 17;obtain ⟨W2,hW2⟩:∃ W2,(W1.setCell ⟨w.heap.size+1,0,none⟩ (.int .i64 0)).setCell ⟨w.heap.size+1,1,none⟩ (.int .i64 0)=W2:=⟨_,rfl⟩;rw [hW2] at hC1 htk hsW d0 d1 d2 e0 e1 ⊢;rw [← hsW] at hs2 ⊢;have hPP:=Pa.P.made (E:=src.size) htk hlen htc;have hb3:Below W2.heap.size W2 (W2.alloc (.cells #[.slice ta ts.length tc,.int .i64 0,.int .i64 (src.size:Int)] 47)):=(Below.refl _ _).alloc (Nat.le_refl _) _;have hC3:=hC1.below hb3;have hTb:=hT.tb hC3.B (Nat.le_trans (Nat.le_succ_of_le (Nat.le_succ _)) hs2) (by simp);refine (HE.out _ _ _ _ hTb hPP).mono ?_;rintro e V ⟨ra,rn,rc,rfl,hR,hPt⟩;have hC4:=hC3.fr hPt.2 hs2;have hR0:=hR.mono (Nat.zero_le _);clear d0 d1 d2 e0 e1;obtain ⟨d0,d1,d2,e0,e1⟩:=hC4.cells)
  | (go_at_call 16;refine (HLI.out _ _ hR0).mono ?_;rintro e V5 ⟨va,vc,rfl,hrow,hb5⟩;have hC5:=hC4.below hb5;have hsV:w.heap.size+2≤V.heap.size:=(Array.getElem?_eq_some_iff.1 hC4.fa).1;have hC6:=hC5.tree va N vc;clear d0 d1 d2 e0 e1;obtain ⟨d0,d1,d2,e0,e1⟩:=hC5.cells;have hrow6:=ownsRow_setCell_below (a:=⟨w.heap.size,0,none⟩) hrow (by simp only;omega) (.slice va N vc);obtain ⟨k0,k1,k2,g0,g1⟩:=hC6.cells)
  | (go_at_call 18;refine (HV.out _ _ (Mill.nodesAt_own hrow6) (hT.below hC6.B)).mono ?_;rintro e V7 ⟨rfl,hb7⟩;have hC7:=hC6.below hb7;have hrow7:=Mill.own_below hrow6 hb7;clear k0 k1 k2 g0 g1 d0 d1 d2 e0 e1;obtain ⟨k0,k1,k2,g0,g1⟩:=hC7.cells))
 refine leaves_cons (f:=13) (args := #[.pointer (some ⟨w.heap.size,0,none⟩),.pointer (some ⟨w.heap.size+1,0,none⟩)]) (by simp) (by simp [go_sem]) ?_
 refine (Pa.catch_idle _ _ _).mono ?_
 rintro e u' w'' ⟨rfl,rfl,rfl⟩
 have hC8:=(hC7.tree va N vc).flt 0 0
 have hrow8:=ownsRow_setCell_below (a:=⟨w.heap.size+1,1,none⟩) (ownsRow_setCell_below (a:=⟨w.heap.size+1,0,none⟩) (ownsRow_setCell_below (a:=⟨w.heap.size,0,none⟩) hrow7 (by simp only;omega) (.slice va N vc)) (by simp only;omega) (.int .i64 0)) (by simp only;omega) (.int .i64 0)
 obtain ⟨m0,m1,m2,_,_⟩:=hC8.cells
 obtain ⟨V8,hV8⟩:∃ V8,((V7.setCell ⟨w.heap.size,0,none⟩ (.slice va N vc)).setCell ⟨w.heap.size+1,0,none⟩ (.int .i64 0)).setCell ⟨w.heap.size+1,1,none⟩ (.int .i64 0)=V8:=⟨_,rfl⟩
 rw [hV8] at hC8 hrow8 m0 m1 m2 ⊢
 clear hV8
 simp [Leaves,settle,results,Tryz.results5,go_sem,m0,m1,m2]
 refine ⟨hC8.B,va,vc,by rw [HL.out], ?_⟩
 rw [HL.out]
 exact Pa.own_mono hrow8 (by omega)
theorem Pa.scanL_zero : ∀ (f:Nat) (l:List UInt8) (i:Nat) (acc:List (Mill.Piece × Nat)),(Mill.scanL f l i acc).2.1=0→(Mill.scanL f l i acc).2.2=0:=by
 intro f
 induction f with
 | zero=>intro l i acc _;rw [Mill.scanL]
 | succ f ih =>
  intro l i acc h
  cases l with
  | nil=>rw [Mill.scanL]
  | cons b r =>
   rw [Mill.scanL] at h ⊢
   split
   ·rename_i h1;rw [if_pos h1] at h;exact ih _ _ _ h
   ·rename_i h1
    rw [if_neg h1] at h
    split
    ·rename_i h2;rw [if_pos h2] at h;exact ih _ _ _ h
    ·rename_i h2
     rw [if_neg h2] at h
     split
     ·rename_i h3;rw [if_pos h3] at h;exact absurd h h3
     ·rename_i h3;rw [if_neg h3] at h;exact ih _ _ _ h
theorem Pa.scan_zero {src:ByteArray} {ts:List (Mill.Piece × Nat)} {P:Nat} (h:Mill.scan src=(ts,0,P)):P=0:=by
 unfold Mill.scan at h
 split at h
 ·simp at h
 ·have:=Pa.scanL_zero (src.size+1) src.data.toList 0 []
  rw [h] at this
  exact this rfl
def Pa.res (src:ByteArray):Pa.Res:=if (Mill.scan src).2.1≠0 then .no (Mill.scan src).2.1 (Mill.scan src).2.2 else match Pa.iprog (Mill.scan src).1 50000 [] 0 with
 | some q=>Pa.iends (Mill.scan src).1 src.size q
 | none => .no 0 0
theorem Pa.specParse_any (src:ByteArray) (w:World) (hs:∀ W,Calls Tryz.prog 10 #[.string src] W fun e w'=>Mill.ScanPost W (Mill.scan src) e w') :
  Calls Tryz.prog 4 #[.string src] w (Pa.Post (Pa.res src) w):=by
 obtain ⟨⟨ts,c,P⟩,hr⟩:∃ r,Mill.scan src=r:=⟨_,rfl⟩
 unfold Pa.res
 by_cases h0:c=0
 ·subst h0
  obtain ⟨q,R,h1,h2,h3,h4,h5⟩:=Pa.same src ts 0 P hr
  rw [hr]
  simp only [ne_eq,not_true_eq_false,if_false,h1]
  have h6:=Pa.specParse_ok (w:=w) src 400000 (by decide) ts P hr (Pa.scan_good hr).2 R h2 h4 hs
  have e:Pa.ends ts src.size R=Pa.iends ts src.size q:=by
   cases q with
   | error k =>
    obtain ⟨o,c,h3⟩:=h3
    simp only [Option.some.injEq] at h3
    subst h3
    rfl
   | ok x =>
    simp only [Pa.SmC,Option.some.injEq] at h3
    subst h3
    simp only [Pa.ends,Pa.iends,Bool.false_eq_true,if_false,Mill.valid_root]
  rw [e] at h6
  exact h6
 ·rw [hr]
  simp only [ne_eq,h0,not_false_eq_true,if_true]
  exact Pa.specParse_bad (w:=w) src (ts,c,P) hr h0 hs
theorem Pa.implParse_any (src:ByteArray) (w:World) (hsz:src.size≤9223372036854775807) (hT:Pa.Tg w) (hs:∀ W,Below w.heap.size w W→Calls Tryz.prog 15 #[.string src] W fun e w'=>Mill.ScanPost W (Mill.scan src) e w') :
  Calls Tryz.prog 5 #[.string src] w (Pa.Post (Pa.res src) w):=by
 obtain ⟨⟨ts,c,P⟩,hr⟩:∃ r,Mill.scan src=r:=⟨_,rfl⟩
 unfold Pa.res
 rw [hr] at hs ⊢
 by_cases h0:c=0
 ·subst h0
  obtain ⟨q,R,h1,h2,h3,h4,h5⟩:=Pa.same src ts 0 P hr
  obtain ⟨hG,hl⟩:=Pa.scan_good hr
  obtain rfl:=Pa.scan_zero hr
  simp only [ne_eq,not_true_eq_false,if_false,h1]
  cases q with
  | error k=>exact Pa.implParse_err src hsz ts k h1 hG hl hT hs
  | ok x =>
   simp only [Pa.SmC,Option.some.injEq] at h3
   subst h3
   simp only at h4 h5
   have hl2:(Pa.flat (Pa.br 24 0 0 [] x.1)).length≤1000000:=by rw [Pa.flat_prog,Pa.root];simpa using h4
   have hx2:∀ d ∈ Pa.flat (Pa.br 24 0 0 [] x.1),d.text.size≤1048576:=by
    intro d hd
    rw [Pa.flat_prog,Pa.root,List.mem_append,List.mem_singleton] at hd
    rcases hd with hd | rfl
    ·exact Nat.le_trans (h5 d hd) (by decide)
    ·exact Nat.zero_le _
   unfold Pa.iends
   simp only
   rw [← Pa.flat_prog]
   cases hro:Mill.rootOk (Pa.flat (Pa.br 24 0 0 [] x.1)) with
   | false=>exact Pa.implParse_no src hsz ts x h1 hG hl hT hl2 hx2 hro hs
   | true=>exact Pa.implParse_yes src hsz ts x h1 hG hl hT hl2 hx2 hro hs
 ·simp only [ne_eq,h0,not_false_eq_true,if_true]
  exact Pa.implParse_bad src w (ts,c,P) h0 hs
end Go.Proofs.YtlcckaffhnjneaaGreatDoor
