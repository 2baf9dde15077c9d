import Derived.Test.YtjlaedokfbcbpaaGreatDoorKScanZ
import Derived.Test.YtjlaedokfbcbpaaGreatDoorKRoG
import Derived.Test.YtjlaedokfbcbpaaGreatDoorCards
import Derived.Test.YtjlaedokfbcbpaaGreatDoorTie
import Derived.Lay
import Derived.OpenShut
import Derived.OpenVars
import Derived.Lib.LaidIn
import Derived.Stop.LaidErr
import Derived.Deep.DeepHandedRow
import Derived.Deep.DeepWitnessRowRef
import Derived.SizedLaws
import Derived.ChangeVars
import Derived.Carry
import Derived.SevenTiedAt
set_option maxRecDepth 100000
set_option maxHeartbeats 4000000
namespace Go.Proofs.YtjlaedokfbcbpaaGreatDoor
open Proofs.Tryz
open Go.RowKit Go.Shelf
attribute [local go_sem] Oper.semAt_some
theorem tokens_stops (s:ByteArray) (hs:s.size<=12000) (Bs n₀:Nat) (w:World) (hn:1 < n₀/\7 < n₀) (hsrc:Boxed w Bs 9 (.string s)) (hG:Em w) :
  SeqStopsK Fence.wide 2 prog 81 #[.pointer (some (OK Bs 0))] Uv (Mh n₀) (fun xs=>xs=Ee s) (fun pre=>pre <+: Ee s) (Ee s).length w:=fun l J Jx W hW hJ _ hY h0 =>
 tokens1_in s hs l Bs n₀ J Jx W hn ((hW.block Bs hsrc.lt).trans hsrc) (hG.below hW) hJ hY h0
theorem Il {w:World} {k:Nat} {o:Obj} (h:w.heap[k]? = some o):k < w.heap.size:=(Array.getElem?_eq_some_iff.1 h).1
theorem Qed {n₀:Nat} {W W':World} (hb:Below W.heap.size W W') (hn:n₀<=W.heap.size):Mh n₀ W W' :=
 ⟨hb.mono hn,⟨hb.size,fun k _ hk _=>(hb.block k (Il hk)).trans hk⟩,fun k _ _ hk=>hb.block k (Il hk),fun k _ _ hk=>hb.block k (Il hk)⟩
theorem Qa2 {B:Nat} {W W':World} (hb:Below W.heap.size W W'):KeepsFrom B W W' :=
 ⟨hb.size,fun k _ _ hk _=>(hb.block k (Il hk)).trans hk⟩
theorem R0 {β:Type} (B:Nat) (f:β->Array Value) (t:TypeId):Own (fun (s:β) W=>W.heap[B]? = some (.cells (f s) t (0,0))):=fun s X Y row hs hg hrow=>by
 refine(hg.block B (Il hs) (fun e' => ?_)).trans hs
 obtain⟨o,a,b⟩:=hrow B e'.symm
 rw[hs]at a;cases a;cases b
theorem O0 {w:World} {B o:Nat} {c:Array Value} {t:TypeId} {fz:Nat × Nat} (h:w.heap[B]? = some (.cells c t fz)) (v:Value):(w.setCell (OK B o) v).heap[B]? = some (.cells (c.setIfInBounds o v) t fz):=by
 simp[World.setCell,Array.getElem?_modify,h]
theorem D0 {w:World} {B B' o:Nat} {x:Obj} (h:w.heap[B]? = some x) (hne:B≠B') (v:Value):(w.setCell (OK B' o) v).heap[B]? = some x:=by
 simp[World.setCell,Array.getElem?_modify,Ne.symm hne,h]
theorem Dh {w:World} {B:Nat} {c:Array Value} {t:TypeId} {fz:Nat × Nat} (h:w.heap[B]? = some (.cells c t fz)) (o:Nat):w.cell? (OK B o)=c[o]?:=by
 simp[World.cell?,h]
theorem Ly {w:World} {B:Nat} {c:Array Value} {t:TypeId} (h:w.heap[B]? = some (.cells c t (0,0))) (o:Nat):w.frozen? (OK B o)=false:=by
 simp[World.frozen?,h]
theorem Xe : ∀ (l acc:List (Ab × Nat)),(∀ x ∈ l,x.1.code=0)->Jp acc l=(acc++l,0,0)
 | [],acc,_=>by rw[Jp];simp
 | x::r,acc,h=>by
  rw[Jp,if_neg (by simpa using h x OF),Xe r _ (fun y hy=>h y (by simp[hy]))];simp
theorem Xf : ∀ (p acc:List (Ab × Nat)) (x:Ab × Nat) (r:List (Ab × Nat)),(∀ y ∈ p,y.1.code=0)->x.1.code≠0->Jp acc (p++x::r)=([],x.1.code,x.2)
 | [],acc,x,r,_,hx=>by rw[List.nil_append,Jp,if_pos hx]
 | y::p,acc,x,r,h,hx=>by
  rw[List.cons_append,Jp,if_neg (by simpa using h y OF),Xf p _ x r (fun z hz=>h z (by simp[hz])) hx]
theorem Vi (s:ByteArray) (hs:s.size<=12000):Hi s=Jp [] (Ee s):=by
 rw[Hi,if_neg OC,Np];rfl
theorem Pn {W w1:World} {n₀ B k T:Nat} {v v' u:Value} {xs:List Value} {tmp:Obj} (hT:T≠113) (hT2:T≠70) (hrow:W.ownsRow n₀ 113 5 v k xs) (hv:Boxed W B 70 u) (hg:(W.alloc tmp).grownBy w1 v.ownBlock)
  (i:Nat) (c:Array Value) (fz:Nat × Nat) (hi:W.heap[i]? = some (.cells c T fz)):(w1.setCell (OK B 0) v').heap[i]? = W.heap[i]?:=by
 have b:=Il hi;have d:i≠B:=fun e=>by subst e;rw[show W.heap[i]? = _ from hv]at hi;cases hi;exact hT2 rfl
 have f:w1.heap[i]? = W.heap[i]?:=by
  refine(hg.block i OH (fun e => ?_)).trans (Below.heap_alloc W tmp i b);rcases hrow.2 with⟨rfl,_⟩|⟨g,h,j,rfl,_,a,_⟩
  ·simp[Value.ownBlock]at e
  ·obtain rfl:i=g:=by simpa[Value.ownBlock]using e
   rw[a]at hi;cases hi;exact hT rfl
 rw[hi]at f;rw[hi];exact D0 f d v'
theorem Qee {A B:World} (h:KeepsOthers A B):KeepsWalks A B:=⟨h.size,fun k o hk ho=>h.same k o hk (Obj.not_cells_of_walk ho)⟩
theorem Qes (w:World) (a b c d e:Value) (t:TypeId) (j:Nat) (u:Value) (h:[a,b,c,d,e][j]? = some u):(w.alloc (.cells #[a,b,c,d,e] t)).cell? (((OK w.heap.size 0):Addr).add j)=some u :=
 Qw w #[a,b,c,d,e] t j u h
theorem Qcj {w:World} {B e size n:Nat} {v:Value} {xs:List Value} (h:w.ownsRow B e size v n xs):∃ a m c,v = .slice a m c:=by
 rcases h.2 with⟨rfl,_⟩|⟨g,b,d,rfl,_⟩
 ·exact⟨_,_,_,rfl⟩
 ·exact⟨_,_,_,rfl⟩
theorem Qel {w w':World} {B e size n:Nat} {v:Value} {xs:List Value} (h:w.ownsRow B e size v n xs) (hk:∀ (g:Nat) (a:Array Value),w.heap[g]? = some (Obj.cells a e (0,0))->w'.heap[g]? = some (Obj.cells a e (0,0))):w'.ownsRow B e size v n xs:=by
 refine⟨h.1, ?_⟩;rcases h.2 with c|⟨g,b,a,d,c,f,i⟩
 ·exact .inl c
 ·exact .inr ⟨g,b,a,d,c,hk g a f,i⟩
def Qje (W:World) (B:Nat) (x:Ab × Nat):Prop:=W.heap[B]? = some (.cells #[.int .i64 x.1.kind,.string (Aj x.1.text),.int .i64 x.1.type,.int .i64 x.1.n,.int .i64 (x.2:Int)] 113 (0,0))
def Qi0 (w:World) (pre:List (Ab × Nat)) (W:World):Prop :=
 ((((∀ x ∈ pre,x.1.code=0)/\(∃ v,Boxed W (w.heap.size+2) 70 v/\W.ownsRow w.heap.size 113 5 v pre.length (H8 pre)/\True))/\Boxed W w.heap.size 70 (.slice none 0 0))/\W.heap[w.heap.size+1]? = some (.cells #[.int .i64 0,.int .i64 0] 30 (0,0)))/\Below w.heap.size w W
def Qfl (w:World) (c:Code) (pre:List (Ab × Nat)) (W:World):Prop :=
 ((c = .ret/\∃ p x,(pre=p++[x]/\(∀ y ∈ p,y.1.code=0)/\x.1.code≠0)/\W.heap[w.heap.size+1]? = some (.cells #[.int .i64 x.1.code,.int .i64 (x.2:Int)] 30 (0,0)))/\Boxed W w.heap.size 70 (.slice none 0 0))/\Below w.heap.size w W
theorem Xk (w:World) (B:Nat) (hB:w.heap.size<=B):OwnFrom B (Qi0 w) :=
 OwnFrom.and (OwnFrom.and (OwnFrom.and (OwnFrom.and (ownFrom_pure _ _) (Own.from (holdsRow_own _ _ _ _ _ _ _ (fun _ _=>True)) _)) (Own.from (boxed_own _ _ _) _)) (Own.from (R0 _ (fun _ => #[.int .i64 0,.int .i64 0]) _) _)) (ownFrom_below ON hB)
theorem Qeb (w:World) (c:Code) (B:Nat) (hB:w.heap.size<=B):OwnFrom B (Qfl w c) :=
 OwnFrom.and (OwnFrom.and (fun s W W' row hs hg hr=>by
  obtain⟨d,p,x,a,b⟩:=hs
  exact⟨d,p,x,a,R0 (w.heap.size+1) (fun (_:Unit) => #[.int .i64 x.1.code,.int .i64 (x.2:Int)]) 30 () W W' row b hg (fun r e=>(hr r e).2)⟩) (Own.from (boxed_own _ _ _) _)) (ownFrom_below ON hB)
theorem implScan_in (s:ByteArray) (hs:s.size<=12000) (w:World) (hG:Em w) :
  CallsIn Fence.wide 3 prog 23 #[.string s] w (Lp w (Hi s)):=by
 obtain⟨i0,hi,aj,ak,al⟩:=info_parts Tryz.infoTok;have R:=hG.big;have am:(Ee s).length<=s.size+1:=Oz _ _ _;refine callsIn_of_wp_marks func23 rfl trivial ?_ rfl;simp only[ntmps23,List.size_toArray,List.length_cons,List.length_nil,Nat.reduceAdd,Nat.reduceSub,Array.replicate_succ,Array.replicate_zero,List.push_toArray,List.append_toArray,List.nil_append,List.cons_append];gi_wp2_with ((with_reducible refine And.intro ?_ ?_);exact trivial;gi_at_call 50;refine(tokens_in _ _ _).mono ?_;rintro e w' ⟨rfl,rfl⟩);have bR:=(((Boxed.new w 70 (.slice none 0 0)).alloc (.cells #[.int .i64 0,.int .i64 0] 30)).alloc (.cells #[.slice none 0 0] 70)).alloc (.cells #[.string s] 9);have Z:=(Boxed.new ((w.alloc (.cells #[.slice none 0 0] 70)).alloc (.cells #[.int .i64 0,.int .i64 0] 30)) 70 (.slice none 0 0)).alloc (.cells #[.string s] 9);have bS:=Boxed.new (((w.alloc (.cells #[.slice none 0 0] 70)).alloc (.cells #[.int .i64 0,.int .i64 0] 30)).alloc (.cells #[.slice none 0 0] 70)) 9 (.string s);have bF:((((w.alloc (.cells #[.slice none 0 0] 70)).alloc (.cells #[.int .i64 0,.int .i64 0] 30)).alloc (.cells #[.slice none 0 0] 70)).alloc (.cells #[.string s] 9)).heap[w.heap.size+1]? = some (.cells #[.int .i64 0,.int .i64 0] 30 (0,0)):=by
  have h:=World.alloc_heap_new (w.alloc (.cells #[.slice none 0 0] 70)) (.cells #[.int .i64 0,.int .i64 0] 30);rw[World.size_alloc]at h;exact(Below.heap_alloc _ _ _ OF).trans ((Below.heap_alloc _ _ _ OF).trans h)
 have E:Below w.heap.size w ((((w.alloc (.cells #[.slice none 0 0] 70)).alloc (.cells #[.int .i64 0,.int .i64 0] 30)).alloc (.cells #[.slice none 0 0] 70)).alloc (.cells #[.string s] 9)):=(((OP w _).alloc OF _).alloc OH _).alloc OH _;have ai:((((w.alloc (.cells #[.slice none 0 0] 70)).alloc (.cells #[.int .i64 0,.int .i64 0] 30)).alloc (.cells #[.slice none 0 0] 70)).alloc (.cells #[.string s] 9)).heap.size=w.heap.size+4:=by simp
 simp only[World.size_alloc]at Z bS;obtain⟨M,Q⟩:∃ M,(((w.alloc (.cells #[.slice none 0 0] 70)).alloc (.cells #[.int .i64 0,.int .i64 0] 30)).alloc (.cells #[.slice none 0 0] 70)).alloc (.cells #[.string s] 9)=M:=⟨_,rfl⟩;rw[Q]at bR Z bS bF E ai |-
 clear Q;have ad:Em M:=hG.below E;refine wpIn_rangeFunc_ownH (F:=Fence.wide) (n:=3) rfl OC (gf:=81) (lb := #[.pointer (some (OK (w.heap.size+1+1+1) 0))]) rfl trivial (enters_of func81 OE rfl)
  (tokens_stops s hs (w.heap.size+1+1+1) w.heap.size M R bS ad) (fun h k=>h.trans k) (fun W l o o' hl h hc hw=>Mh.put (w:=M) OC W l o o' hl h hc hw) (OO _) (fun _=>rfl)
  (Qi0 w) (Qfl w) (Xk w _ OC) (fun c=>Qeb w c _ OC)
  ⟨⟨⟨⟨by simp,.slice none 0 0,Z,⟨by simp[H8],.inl ⟨rfl,rfl⟩⟩,trivial⟩,bR⟩,bF⟩,E⟩
  (fun x V W => ∃ m,w.heap.size+2 < m/\Qje W m x/\V = { tmps := #[.string s,undef,.pointer (some (OK w.heap.size 0)),.pointer (some (OK (w.heap.size+1) 0)),.pointer (some (OK (w.heap.size+1+1) 0)),.pointer (some (OK m 0)),.int .i64 x.1.code,.string s,.int .i64 (s.size:Int),.bool (decide (12000 < (s.size:Int))),undef,.string s,.func (.func 81) #[] #[.pointer (some (OK (w.heap.size+1+1+1) 0))],.agg #[.int .i64 x.1.kind,.string (Aj x.1.text),.int .i64 x.1.type,.int .i64 x.1.n,.int .i64 (x.2:Int)],.int .i64 x.1.code,undef,undef,undef,undef,undef,undef,undef,undef,undef,undef,undef,undef],defers:=[] })
  (fun x V _ X Y row hs hg hr=>by obtain⟨m,e1,e2,e3⟩:=hs;exact⟨m,e1,R0 m (fun (_:Unit) => #[.int .i64 x.1.kind,.string (Aj x.1.text),.int .i64 x.1.type,.int .i64 x.1.n,.int .i64 (x.2:Int)]) 113 () X Y row e2 hg (fun r e=>(hr r e).2),e3⟩)
  ?assign ?body ?done ?stop
 case assign =>
  rintro l j x W K hI J;dsimp only[Uv];gi_wp2;have hb:=OP W (Obj.cells #[.int .i64 x.1.kind,.string (Aj x.1.text),.int .i64 x.1.type,.int .i64 x.1.n,.int .i64 (x.2:Int)] 113);have I:=hI.2.size;obtain⟨v,f,_⟩:=hI.1.1.1.2;have S:=f.lt;exact J _ _ (Qa2 hb) (Qed hb I) ((Xk w w.heap.size ON) j W _ none hI (Oi hb) (fun r e=>by cases e)) ⟨W.heap.size,S,World.alloc_heap_new W _,rfl⟩
 case body =>
  rintro l j x V W hl ⟨r,hr⟩ ⟨⟨⟨⟨L,v,f,b,-⟩,d⟩,a⟩,i⟩ ⟨m,an,N,rfl⟩ S;have I:=i.size;have cL:=f.cell;have fL:=f.frozen;have cR:=d.cell;have fR:=d.frozen;have O:W.cell? (OK (w.heap.size+1) 0)=some (.int .i64 0):=Dh a 0;have P:W.cell? (OK (w.heap.size+1) 1)=some (.int .i64 0):=Dh a 1;have aa:=Ly a 0;have ab:=Ly a 1;have x0:W.cell? (OK m 0)=some (.int .i64 x.1.kind):=Dh N 0;have x1:W.cell? (OK m 1)=some (.string (Aj x.1.text)):=Dh N 1;have x2:W.cell? (OK m 2)=some (.int .i64 x.1.type):=Dh N 2;have x3:W.cell? (OK m 3)=some (.int .i64 x.1.n):=Dh N 3;have x4:W.cell? (OK m 4)=some (.int .i64 (x.2:Int)):=Dh N 4;by_cases hc:x.1.code=0
  ·have ag:(x.1.code != 0)=false:=(by simp[hc]);gi_wp2_with (gi_at_builtin;refine wpListIn_append_own _ rfl _ _ 70 rfl w.heap.size 113 i0 (.agg #[.int .i64 0,.string ByteArray.empty,.int .i64 0,.int .i64 0,.int .i64 0]) 5 48 underlying70 hi aj ak al rfl OD _ _ _ rfl (b.alloc _) (OK W.heap.size 0) 1 1 [.int .i64 x.1.kind,.string (Aj x.1.text),.int .i64 x.1.type,.int .i64 x.1.n,.int .i64 (x.2:Int)] rfl rfl (Qes _ _ _ _ _ _ _) (fun x U=>by simp at U;rcases U with rfl|rfl|rfl|rfl|rfl <;> rfl) OI OC OH ?_;intro v' w3 A z ah;obtain⟨b1,b2,b3,b4,b5⟩:=Boxed.appended (B:=w.heap.size+2) f OD b I OC A z;have c3:=b1.cell;have f3:=b1.frozen;obtain⟨g',C,rfl⟩:=ownsRow_succ A);have ae:=(((d.alloc (.cells #[.int .i64 x.1.kind,.string (Aj x.1.text),.int .i64 x.1.type,.int .i64 x.1.n,.int .i64 (x.2:Int)] 113)).kept z (d.not_row OD b)).other (B':=w.heap.size+2) OC (.slice (some (OK g' 0)) (j.length+1) C));have ac:=(Pn (v':=.slice (some (OK g' 0)) (j.length+1) C) OD OD b f z _ _ _ a).trans a;refine⟨b4.from _,⟨b5,Qee b4,Pn OD OD b f z,Pn OD OD b f z⟩,⟨⟨⟨⟨fun y hy => ?_,_,b2, ?_,trivial⟩,ae⟩,ac⟩,i.trans b5⟩⟩
   ·rcases List.mem_append.1 hy with h|h
    ·exact L y h
    ·simp at h;rw[h];exact hc
   ·rw[Qbd,List.length_append];exact b3
  ·have ag:(x.1.code != 0)=true:=(by simp[hc]);gi_wp2;gi_region;all_goals gi_wp2
   all_goals (
    refine⟨((((KeepsOthers.setCell _ _ _).trans (KeepsOthers.setCell _ _ _)).trans (KeepsOthers.setCell _ _ _)).trans (KeepsOthers.drew _)).from _,⟨⟨⟨rfl,j,x,⟨rfl,L,hc⟩, ?_⟩, ?_⟩,(((i.setCell (p:=(OK w.heap.size 0)) OF _).setCell (p:=(OK (w.heap.size+1) 0)) OF _).setCell (p:=(OK (w.heap.size+1) 1)) OF _).drew⟩⟩
    ·have h:=O0 (o:=1) (O0 (o:=0) (D0 (B':=w.heap.size) (o:=0) a OC (.slice none 0 0)) (.int .i64 x.1.code)) (.int .i64 (x.2:Int))
     show (World.setCell (World.setCell (World.setCell W _ _) _ _) _ _).heap[w.heap.size+1]? = some _
     simpa using h
    ·exact D0 (D0 (d.set (.slice none 0 0)) OC _) OC _)
 case done =>
  rintro D xs W hD rfl ⟨⟨⟨⟨L,v,f,b,-⟩,d⟩,a⟩,i⟩ J;obtain⟨q,u,t,rfl⟩:=Qcj b;have cL:=f.cell;have fL:=f.frozen;have cR:=d.cell;have fR:=d.frozen;have O:W.cell? (OK (w.heap.size+1) 0)=some (.int .i64 0):=Dh a 0;have P:W.cell? (OK (w.heap.size+1) 1)=some (.int .i64 0):=Dh a 1;have aa:=Ly a 0;have ab:=Ly a 1;gi_wp2;have G:=(((KeepsOthers.setCell W (OK w.heap.size 0) (.slice q u t)).trans (KeepsOthers.setCell _ (OK (w.heap.size+1) 0) (.int .i64 0))).trans (KeepsOthers.setCell _ (OK (w.heap.size+1) 1) (.int .i64 0))).same D _ J rfl;have af:=((i.setCell (p:=(OK w.heap.size 0)) OF (.slice q u t)).setCell (p:=(OK (w.heap.size+1) 0)) OF (.int .i64 0)).setCell (p:=(OK (w.heap.size+1) 1)) OF (.int .i64 0);have r0:(((W.setCell (OK w.heap.size 0) (.slice q u t)).setCell (OK (w.heap.size+1) 0) (.int .i64 0)).setCell (OK (w.heap.size+1) 1) (.int .i64 0)).heap[w.heap.size]? = some (.cells #[.slice q u t] 70 (0,0)):=D0 (D0 (d.set (.slice q u t)) OC _) OC _;have r1:(((W.setCell (OK w.heap.size 0) (.slice q u t)).setCell (OK (w.heap.size+1) 0) (.int .i64 0)).setCell (OK (w.heap.size+1) 1) (.int .i64 0)).heap[w.heap.size+1]? = some (.cells #[.int .i64 0,.int .i64 0] 30 (0,0)):=by
   have h:=O0 (o:=1) (O0 (o:=0) (D0 (B':=w.heap.size) (o:=0) a OC (.slice q u t)) (.int .i64 0)) (.int .i64 0);simpa using h
  have ro:(((W.setCell (OK w.heap.size 0) (.slice q u t)).setCell (OK (w.heap.size+1) 0) (.int .i64 0)).setCell (OK (w.heap.size+1) 1) (.int .i64 0)).ownsRow w.heap.size 113 5 (.slice q u t) (Ee s).length (H8 (Ee s)) :=
   Qel b (fun g cur hg=>by
    have n0:g≠w.heap.size:=fun e=>by subst e;rw[show W.heap[w.heap.size]? = _ from d]at hg;cases hg
    have n1:g≠w.heap.size+1:=fun e=>by subst e;rw[a]at hg;cases hg
    exact D0 (D0 (D0 hg n0 _) n1 _) n1 _)
  generalize ((W.setCell (OK w.heap.size 0) (.slice q u t)).setCell (OK (w.heap.size+1) 0) (.int .i64 0)).setCell (OK (w.heap.size+1) 1) (.int .i64 0)=W1 at *;refine⟨by simp,.inl ⟨_,_,rfl,run_takeDeferred G, ?_⟩⟩;have q0:(W1.putObj D (.deferred none)).cell? (OK w.heap.size 0)=some (.slice q u t):=Dh ((World.putObj_heap_other OC).trans r0) 0;have q1:(W1.putObj D (.deferred none)).cell? (OK (w.heap.size+1) 0)=some (.int .i64 0):=Dh ((World.putObj_heap_other OC).trans r1) 0;have q2:(W1.putObj D (.deferred none)).cell? (OK (w.heap.size+1) 1)=some (.int .i64 0):=Dh ((World.putObj_heap_other OC).trans r1) 1;refine⟨.tuple #[.slice q u t,.agg #[.int .i64 0,.int .i64 0]],by simp[results,Tryz.f23,go_sem,q0,q1,q2], ?_⟩;rw[Vi s hs,Xe _ _ L];exact⟨_,rfl,ownsRow_putObj ro _ G rfl,af.trans (belowK_b (w:=w) ON W1 D _ _ OC G rfl rfl)⟩
 case stop =>
  rintro D c j W hD T ⟨⟨⟨rfl,p,x,⟨rfl,L,U⟩,a⟩,d⟩,i⟩ J;have cR:=d.cell;have O:W.cell? (OK (w.heap.size+1) 0)=some (.int .i64 x.1.code):=Dh a 0;have P:W.cell? (OK (w.heap.size+1) 1)=some (.int .i64 (x.2:Int)):=Dh a 1;gi_wp2;refine⟨by simp,.inl ⟨_,_,rfl,run_takeDeferred J, ?_⟩⟩;have q0:(W.putObj D (.deferred none)).cell? (OK w.heap.size 0)=some (.slice none 0 0):=Dh ((World.putObj_heap_other OC).trans d) 0;have q1:(W.putObj D (.deferred none)).cell? (OK (w.heap.size+1) 0)=some (.int .i64 x.1.code):=Dh ((World.putObj_heap_other OC).trans a) 0;have q2:(W.putObj D (.deferred none)).cell? (OK (w.heap.size+1) 1)=some (.int .i64 (x.2:Int)):=Dh ((World.putObj_heap_other OC).trans a) 1;refine⟨.tuple #[.slice none 0 0,.agg #[.int .i64 x.1.code,.int .i64 (x.2:Int)]],by simp[results,Tryz.f23,go_sem,q0,q1,q2], ?_⟩;obtain⟨rest,H⟩:=T;rw[Vi s hs,<- H,List.append_assoc,List.singleton_append,Xf _ _ _ _ L U];exact⟨_,rfl,⟨rfl,.inl ⟨rfl,rfl⟩⟩,i.trans (belowK_b (w:=w) ON W D _ _ OC J rfl rfl)⟩
theorem implScan_long (s:ByteArray) (hs:12000 < s.size) (w:World) :
  Calls prog 23 #[.string s] w (Lp w (Hi s)):=by
 have a:Hid (Hi s=([],1,0)):=by rw[Hid,Hi,if_pos hs]
 go_enter func23,ntmps23;go_wp2;refine bodyPost_ret (v:=.tuple #[.slice none 0 0,.agg #[.int .i64 1,.int .i64 0]]) (by simp[results,Tryz.f23,go_sem]) rfl ?_;rw[a.out];exact⟨_,rfl,⟨rfl,.inl ⟨rfl,rfl⟩⟩,(OP w _).alloc OF _⟩
theorem implScan_any (s:ByteArray) (w:World) (hG:Em w) :
  Calls prog 23 #[.string s] w (Lp w (Hi s)):=by
 by_cases h:12000 < s.size
 ·exact implScan_long s h w
 ·exact callsIn_wide.1 (implScan_in s OC w hG)
open Go.RowKit
structure Sm (w:World):Prop where
 gr:E8 w
 bu:Ed w
 ta:E0 w.heap.size w
 po:∀ w1,Below w.heap.size w w1->Lib.TabIs prog w1 "internal/strconv.uint64pow10" .u64 Lib.pow10Tab
 tg:Vp w
 gl:Em w
theorem Sm.below {w W:World} (h:Sm w) (hb:Below w.heap.size w W):Sm W :=
 ⟨h.gr.below hb,h.bu.below hb,(h.ta.below hb).up hb.size,fun w1 h1=>h.po w1 (hb.trans (h1.mono hb.size)),h.tg.below hb,h.gl.below hb⟩
theorem Qhq {l:List Ae} (h:∀ d ∈ l,Fi d) {K:Nat} (hK:100<=K):∀ d ∈ l,d.text.size<=K:=fun d hd=>Nat.le_trans (h d hd).1 hK
theorem Qjz {l:List Ae} {v:Value} {w:World} {p:ByteArray} (hE:Sm w) (hN:Bz w v l) (hn:∀ d ∈ l,Fi d) (hp:Dd l=p) :
  Calls prog 5 #[.agg #[v]] w fun e w'=>e = .returned (.string p)/\Below w.heap.size w w':=by
 rw[<- hp];exact Ye l v w hN (Qhq hn OD) hE.gr hE.bu hE.ta hE.po
theorem Qj0 {l:List Ae} {v:Value} {w:World} {b:Bool} (hE:Sm w) (hN:Bz w v l) (hn:∀ d ∈ l,Fi d) (hb:Bj l=b) :
  Calls prog 7 #[.agg #[v]] w fun e w'=>e = .returned (.bool b)/\Below w.heap.size w w':=by
 rw[<- hb];exact implValid_any l v w hN (Qhq hn OD) hE.gr hE.bu
theorem Qnr {l:List Ae} {v:Value} {w:World} {b:Bool} (hN:Bz w v l) (hb:Bj l=b) :
  Calls prog 6 #[.agg #[v]] w fun e w'=>e = .returned (.bool b)/\Below w.heap.size w w':=by
 rw[<- hb,<- Im];exact specValidTree_any l v w hN
theorem Qpg {l:List Ae} {w:World} (hE:Sm w) {src:ByteArray} (hs:src.size<=12000) {ts:List (Ab × Nat)} {x:List Aa × Nat} {N0:Nat} (h1:Hi src=(ts,0,0)) (h2:Ic ts N0 [] 0=some (.ok x)) (h3:Fq (Co 24 0 0 [] x.1)=l) (h4:Gc ts) (h5:ts.length<=12000) (hl:l.length<=12001) (hn:∀ d ∈ l,Fi d) (hr:Bj l=true) :
  Calls prog 9 #[.string src] w (Qo4 l w):=by
 subst h3;refine Zn src OC ts x N0 h2 h4 h5 hE.tg OC (Qhq hn OD) hr (fun W hW => ?_);rw[<- h1];exact implScan_any src W (hE.gl.below hW)
theorem Qnq (w:World) (av:Option Addr) (m cv:Nat) (hB:G3 w w.heap.size (.slice av m cv) m) (hc:m<=cv) (hm:m<=1048576) (hE:Sm w) :
    Calls prog 3 #[.slice av m cv] w fun e w'=>e = .returned (.bool true)/\Below w.heap.size w w':=by
  have HD:Hid (Calls prog 4 #[.slice av m cv] w fun e w' => ∃ a m c,e = .returned (.agg #[.slice a m c])/\As w.heap.size w' (.slice a m c) 300000000/\Below w.heap.size w w'):=Qp6 w _ m hB (fun a' m' c' h=>by injection h with _ h2 h3;omega) hm;have H:Hid (∀ W,Below w.heap.size w W->Sm W):=fun W h=>hE.below h
  clear hB hE;have ad:=Qfr;have ae:prog.eqGuardType prog.depth 30=false:=OE
  have t0:Tk.Mk:=trivial;go_enter func3,ntmps3;go_wp2_with (first
    | (go_at_call 4
       refine HD.out.mono ?_
       rintro e o ⟨a,n,c,rfl,⟨l,hl,B,u⟩,M⟩
       have K:Bz o (.slice a n c) l:=M9 u
       have E:Hid (∀ d ∈ l,Fi d):=B
       obtain⟨f,z⟩:∃ V,o.alloc (.cells #[.slice a n c] 25)=V:=⟨_,rfl⟩
       have ag:f.heap.size=o.heap.size+1:=(by rw[<- z];simp)
       have q:Below o.heap.size o f:=(by rw[<- z];exact OP _ _)
       have A:Below w.heap.size w f:=M.trans (q.mono M.size)
       have x1:f.cell? (OK o.heap.size 0)=some (.slice a n c):=(by rw[<- z];simp)
       have F:Hid (∀ W,Below f.heap.size f W->Bz W (.slice a n c) l):=fun W h=>E9 K (q.trans (h.mono q.size))
       have O:Hid (∀ W,Below f.heap.size f W->W.cell? (OK o.heap.size 0)=some (.slice a n c)):=fun W h=>(h.cell (p:=(OK o.heap.size 0)) OJ).trans x1
       have y:Hid (∀ W,Below f.heap.size f W->Below w.heap.size w W):=fun W h=>A.trans (h.mono A.size)
       have h3:=Qph l B
       clear B u hl K q
       rcases h3 with⟨G,I,m0⟩|⟨G,I,HX,m1⟩|⟨p,ts,x,N0,G,I,af,ab,aa,J,m2⟩)
    | (go_at_call 5;have _t:=t0;clear t0;refine(Qjz (H.out f A) (F.out f (OO _)) E.out I.out).mono ?_;rintro e w2 ⟨rfl,s⟩;have y2:=O.out w2 s)
    | (go_at_call 6;refine(Qnr (F.out w2 s) G.out).mono ?_;rintro e t ⟨rfl,N⟩;have k:Below f.heap.size f t:=s.trans (N.mono s.size);have y3:=O.out t k;clear y2 N)
    | (go_at_call 7;have _t:=m0;refine(Qj0 (H.out t (y.out t k)) (F.out t k) E.out G.out).mono ?_;rintro e b ⟨rfl,j⟩)
    | (go_at_call 8;have _t:=m1;refine(Zs l _ t (F.out t k) (fun _=>HX.out) (Qhq E.out OD)).mono ?_;rintro e b ⟨rfl,j⟩;rw[I.out])
    | (go_at_call 9
       have _t:=m2
       clear m2
       refine(Qpg (H.out t (y.out t k)) ab J.out.1 J.out.2.1 J.out.2.2.1 J.out.2.2.2.1 J.out.2.2.2.2 aa E.out G.out).mono ?_
       rintro e b ⟨j,C,D,rfl,v⟩
       have L:Bz b (.slice C l.length D) l:=M9 v
       have R:Below f.heap.size f b:=k.trans (j.mono k.size)
       obtain⟨i,g⟩:∃ V,(b.alloc (.cells #[.slice C l.length D] 25)).alloc (.cells #[.int .i64 0,.int .i64 0] 30)=V:=⟨_,rfl⟩
       have r:Below b.heap.size b i:=(by rw[<- g];exact(OP _ _).alloc OF _)
       have ac:i.heap.size=b.heap.size+2:=(by rw[<- g];simp)
       have c4:Below f.heap.size f i:=R.trans (r.mono R.size)
       have u0:i.cell? (OK b.heap.size 0)=some (.slice C l.length D):=(by rw[<- g];simp)
       have u1:i.cell? (OK (b.heap.size+1) 0)=some (.int .i64 0):=(by rw[<- g];simp)
       have u2:i.cell? (OK (b.heap.size+1) 1)=some (.int .i64 0):=(by rw[<- g];simp)
       have Q:Hid ((b.alloc (.cells #[.slice C l.length D] 25)).alloc (.cells #[.int .i64 0,.int .i64 0] 30)=i):=g
       have y4:((b.alloc (.cells #[.slice C l.length D] 25)).alloc (.cells #[.int .i64 0,.int .i64 0] 30)).cell? (OK o.heap.size 0)=some (.slice a n c):=(by rw[g];exact O.out i c4)
       have HM:Hid (∀ W,Below i.heap.size i W->Below f.heap.size f W/\W.cell? (OK o.heap.size 0)=some (.slice a n c)/\W.cell? (OK b.heap.size 0)=some (.slice C l.length D)/\W.cell? (OK (b.heap.size+1) 0)=some (.int .i64 0)/\W.cell? (OK (b.heap.size+1) 1)=some (.int .i64 0)/\Bz W (.slice C l.length D) l):=fun W h=>⟨c4.trans (h.mono c4.size),O.out W (c4.trans (h.mono c4.size)),(h.cell (p:=(OK b.heap.size 0)) OJ).trans u0,(h.cell (p:=(OK (b.heap.size+1) 0)) OJ).trans u1,(h.cell (p:=(OK (b.heap.size+1) 1)) OJ).trans u2,E9 L (r.trans (h.mono r.size))⟩
       clear L v j R r ac y3 g u0 u1 u2
       have m3:Tk.Mk:=trivial)
    | (go_at_call 7;have _t:=m3;clear m3;rw[Q.out];refine(Qj0 (H.out i (y.out i c4)) (F.out i c4) E.out G.out).mono ?_;rintro e w5 ⟨rfl,S⟩;obtain⟨c5,z0,z1,z2,z3,U⟩:=HM.out w5 S;clear y4;have m4:Tk.Mk:=trivial)
    | (go_at_call 10;have _t:=m4;clear m4;refine(Qp7 l _ _ w5 U (F.out w5 c5) OC).mono ?_;rintro e P ⟨rfl,Y⟩;have b6:Below i.heap.size i P:=S.trans (Y.mono S.size);clear z0 z1 z2 z3;obtain⟨T,z0,z1,z2,z3,X⟩:=HM.out P b6;have m5:Tk.Mk:=trivial)
    | (go_at_call 5;have _t:=m5;clear m5;refine(Qjz (H.out P (y.out P T)) X E.out I.out).mono ?_;rintro e w7 ⟨rfl,Z⟩;have m6:Tk.Mk:=trivial))
  all_goals first
    | (have _t:=m0;go_ret;exact⟨rfl,y.out b (k.trans (j.mono k.size))⟩)
    | (have _t:=m1;go_ret;exact⟨rfl,y.out b (k.trans (j.mono k.size))⟩)
    | (have _t:=m6;go_ret;exact⟨rfl,y.out w7 (T.trans (Z.mono T.size))⟩)
end Go.Proofs.YtjlaedokfbcbpaaGreatDoor
namespace Go.Proofs.YtjlaedokfbcbpaaGreatDoor
open Proofs.Tryz
namespace Pf
open Go.ChangeShapes Go.WideShapes Go.ChangeAt Go.RowKit Go.Lib
theorem cString : prog.cellsOf 9=1:=OE
theorem cInt : prog.cellsOf 3=1:=OE
theorem cU64 : prog.cellsOf 103=1:=OE
theorem cGreat : prog.cellsOf 167=11:=OE
theorem cCalled : prog.cellsOf 185=2:=OE
theorem cRanked : prog.cellsOf 237=2:=OE
theorem cErr : prog.cellsOf 282=1:=OE
theorem star : "*" ++ "errors.errorString" = "*errors.errorString" :=by decide
theorem rowErr (u:TypeId) (h:prog.typeName? 3 u=some "*errors.errorString"):u=280 :=
 typeName_ptr_named (nm := "errors.errorString") (by rw[star];kernel_rfl) OE OD u (by rw[star];exact h)
theorem gErr : prog.globalNamed "strconv.ErrRange" = some 7:=OE
theorem gErrT : (prog.globals[7]?).map (·.type)=some 141:=OE
theorem gGreat : prog.globalNamed "loop.example/kilnmill/impl.greatest" = some 1:=OE
theorem gGreatT : (prog.globals[1]?).map (·.type)=some 167:=OE
theorem gType : prog.globalNamed "loop.example/kilnmill/impl.typeWords" = some 0:=OE
theorem gTypeT : (prog.globals[0]?).map (·.type)=some 95:=OE
theorem gUn : prog.globalNamed "loop.example/kilnmill/impl.unMarks" = some 3:=OE
theorem gUnT : (prog.globals[3]?).map (·.type)=some 235:=OE
theorem gBin : prog.globalNamed "loop.example/kilnmill/impl.binMarks" = some 4:=OE
theorem gBinT : (prog.globals[4]?).map (·.type)=some 238:=OE
theorem gBuilt : prog.globalNamed "loop.example/kilnmill/impl.builtWords" = some 2:=OE
theorem gBuiltT : (prog.globals[2]?).map (·.type)=some 186:=OE
theorem tlt_cell {W:World} {b o:Nat} {v:Value} (h:W.cell? (OK b o)=some v):b < W.heap.size:=World.block_lt_of_cell? _ _ h
theorem mk_bytes {s:ByteArray} {b:List UInt8} (h:s.data.toList=b):s=⟨b.toArray⟩:=by
 obtain⟨⟨l⟩⟩:=s;have:l=b:=h;subst this;rfl
theorem pairs_at (rows:List (List UInt8 × Int)):∀ (j:Nat) (v:Value),(rows.flatMap fun r=>[Value.string ⟨r.1.toArray⟩,.int .i64 r.2])[j]? = some v->∃ i r,rows[i]? = some r/\((j=i * 2/\v = .string ⟨r.1.toArray⟩)\/(j=i * 2+1/\v = .int .i64 r.2)):=by
 induction rows with
 | nil=>intro j v h;simp at h
 | cons x xs ih =>
  intro j v h;match j with
  | 0=>exact⟨0,x,rfl,.inl ⟨rfl,by simpa using h.symm⟩⟩
  | 1=>exact⟨0,x,rfl,.inr ⟨rfl,by simpa using h.symm⟩⟩
  | j+2 =>
   obtain⟨i,r,b,a⟩:=ih j v (by simpa using h);refine⟨i+1,r,by simpa using b, ?_⟩;rcases a with⟨rfl,a⟩|⟨rfl,a⟩
   ·exact .inl ⟨by omega,a⟩
   ·exact .inr ⟨by omega,a⟩
theorem strsT {A:TypeId} {N:Nat} (u:prog.underlying A=some (.array N 9)) {W:World} {cs:List Value} {fuel:Nat} {p:List MemPlace} {l:List (DataW Unit)} {enc:TypeId × Value->Unit} {base:Nat} {spare:Nat->Bool} {held:Bool} (h:DataW.trod enc prog W base spare held fuel A cs=some (.agg l,p)) (i:Nat) (hi:i < N) (b:List UInt8) (hz:l[i]? = some (.lit (.string b))):cs[i]? = some (.string ⟨b.toArray⟩):=by
 obtain⟨q,m,_,t,n,v,d⟩:=DataW.trod_array u h;have g:l=q.map (·.1):=by have:=(Prod.mk.inj t).1;injection this
 have c:=d i hi;rw[cString]at c;have j:∃ y,q[i]? = some y:=⟨_,List.getElem?_eq_getElem OC⟩;obtain⟨y,o⟩:=j;rw[o]at c;have a:y.1 = .lit (.string b):=by
  rw[g,List.getElem?_map,o]at hz;simpa using hz
 obtain⟨s,k,r,_⟩:=DataW.trod_string underlying9 c;have f:s.data.toList=b:=by
  rw[r]at a;simpa using a
 rw[mk_bytes f]at k;have e:=congrArg (fun l=>l[0]?) k;simpa[List.getElem?_drop,List.getElem?_take]using e
theorem pairT {A E:TypeId} {N:Nat} {fs:Array Field} (u:prog.underlying A=some (.array N E)) (u2:prog.underlying E=some (.struct fs)) (hE:prog.cellsOf E=2) (hf2:fs.size=2) (q0:∃ f,fs[0]? = some f/\f.type=9/\f.offset=0) (q1:∃ f,fs[1]? = some f/\f.type=3/\f.offset=1) {W:World} {cs:List Value} {fuel:Nat} {p:List MemPlace} {l:List (DataW Unit)} {enc:TypeId × Value->Unit} {base:Nat} {spare:Nat->Bool} {held:Bool} (h:DataW.trod enc prog W base spare held fuel A cs=some (.agg l,p)) (i:Nat) (hi:i < N) (b:List UInt8) (z:Int) (hz:l[i]? = some (.agg [.lit (.string b),.lit (.int .i64 z)])):cs[i * 2]? = some (.string ⟨b.toArray⟩)/\cs[i * 2+1]? = some (.int .i64 z):=by
 obtain⟨H,m,_,M,F,O,r⟩:=DataW.trod_array u h;have v:l=H.map (·.1):=by have:=(Prod.mk.inj M).1;injection this
 have n:=r i hi;rw[hE]at n;have x:∃ y,H[i]? = some y:=⟨_,List.getElem?_eq_getElem OC⟩;obtain⟨y,G⟩:=x;rw[G]at n;obtain⟨I,k,_,B,_,d,D⟩:=DataW.trod_struct u2 n;have a:y.1 = .agg [.lit (.string b),.lit (.int .i64 z)]:=by
  rw[v,List.getElem?_map,G]at hz;simpa using hz
 rw[B]at a;have g:I.length=2:=by rw[d];exact hf2
 clear d;match I,g with
 | [y0,y1],_ =>
  obtain⟨X,P,Q,R⟩:=q0;obtain⟨Y,S,T,U⟩:=q1;have j:=D 0 _ P;have o:=D 1 _ S;rw[Q,R]at j;rw[T,U]at o;rw[cString]at j;rw[cInt]at o;simp only[List.map_cons,List.map_nil,DataW.agg.injEq,List.cons.injEq,and_true]at a;obtain⟨s,c,q,_⟩:=DataW.trod_string underlying9 j;obtain⟨V,K,L,_⟩:=DataW.trod_int underlying3 o;have C:V=z:=by
   have e:=a.2;rw[L]at e;simpa using e
  have t:s.data.toList=b:=by
   have e:=a.1;rw[q]at e;simpa using e
  subst C;rw[mk_bytes t]at c;have J:=congrArg (fun l=>l[0]?) c;have e:=congrArg (fun l=>l[0]?) K;refine⟨?_, ?_⟩
  ·simpa[List.getElem?_drop,List.getElem?_take]using J
  ·simpa[List.getElem?_drop,List.getElem?_take]using e
theorem DdPfEx138 {P:Prop} (h:P:=by
 refine⟨fun j v hv => ?_,tlt_cell (a 0 _ rfl)⟩
 rw[o,List.getElem?_map]at hv
 obtain⟨b,t,rfl⟩:=Option.map_eq_some_iff.1 hv
 rw[Nat.zero_add]
 exact a j b t
 ):P:=h
theorem tabType {W:World} {r:List (String × DataW Unit)} (h:laidMet prog (("loop.example/kilnmill/impl.typeWords",Rows.laid_loop_example_kilnmill_impl_typeWords)::r) W):W.rangeAt 0 0 Qfu/\0 < W.heap.size:=by
 obtain⟨u,⟨s,x,l,c,p,q,g,k,d,m,_,_⟩,_⟩:=h
 obtain rfl:=Option.some.inj (gType.symm.trans g)
 obtain rfl:=Option.some.inj (gTypeT.symm.trans k)
 have f:DataW.trod _ prog W _ _ _ c _ l.toList=some (.agg (([]::I0).map fun b => .lit (.string b)),p):=m
 have a:∀ i b,([]::I0)[i]? = some b->W.cell? (OK 0 i)=some (.string ⟨b.toArray⟩):=fun i b hz=>by
  rw[World.var?_cell gType d i]
  have n:i < 11:=(List.getElem?_eq_some_iff.1 hz).1
  have e:=strsT underlying95 f i n b (by rw[List.getElem?_map,hz];rfl)
  simpa using e
 have o:Qfu=([]::I0).map fun b=>Value.string ⟨b.toArray⟩:=rfl
 exact DdPfEx138
theorem tabUn {W:World} {r:List (String × DataW Unit)} (h:laidMet prog (("loop.example/kilnmill/impl.unMarks",Rows.laid_loop_example_kilnmill_impl_unMarks)::r) W):W.rangeAt 3 0 Qfv/\3 < W.heap.size:=by
 obtain⟨u,⟨s,x,l,c,p,q,g,k,d,m,_,_⟩,_⟩:=h
 obtain rfl:=Option.some.inj (gUn.symm.trans g)
 obtain rfl:=Option.some.inj (gUnT.symm.trans k)
 have f:DataW.trod _ prog W _ _ _ c _ l.toList=some (.agg (([]::In).map fun b => .lit (.string b)),p):=m
 have a:∀ i b,([]::In)[i]? = some b->W.cell? (OK 3 i)=some (.string ⟨b.toArray⟩):=fun i b hz=>by
  rw[World.var?_cell gUn d i]
  have n:i < 4:=(List.getElem?_eq_some_iff.1 hz).1
  have e:=strsT underlying235 f i n b (by rw[List.getElem?_map,hz];rfl)
  simpa using e
 have o:Qfv=([]::In).map fun b=>Value.string ⟨b.toArray⟩:=rfl
 exact DdPfEx138
def rowsBin : List (List UInt8 × Int):=[([],0),([124,124],1),([38,38],2),([61,61],3),([33,61],3),([60],3),([60,61],3),([62],3),([62,61],3),([43],4),([45],4),([124],4),([94],4),([42],5),([47],5),([37],5),([38],5),([60,60],5),([62,62],5)]
theorem tabBin {W:World} {r:List (String × DataW Unit)} (h:laidMet prog (("loop.example/kilnmill/impl.binMarks",Rows.laid_loop_example_kilnmill_impl_binMarks)::r) W):W.rangeAt 4 0 Qfp/\4 < W.heap.size:=by
 obtain⟨u,⟨t,x,l,c,p,q,f,g,b,n,_,_⟩,_⟩:=h
 obtain rfl:=Option.some.inj (gBin.symm.trans f)
 obtain rfl:=Option.some.inj (gBinT.symm.trans g)
 have d:DataW.trod _ prog W _ _ _ c _ l.toList=some (.agg (rowsBin.map fun r => .agg [.lit (.string r.1),.lit (.int .i64 r.2)]),p):=n
 have a:∀ i r,rowsBin[i]? = some r->W.cell? (OK 4 (i * 2))=some (.string ⟨r.1.toArray⟩)/\W.cell? (OK 4 (i * 2+1))=some (.int .i64 r.2):=fun i r hz=>by
  have o:i < 19:=(List.getElem?_eq_some_iff.1 hz).1
  have e:=pairT underlying238 underlying237 cRanked (by rfl) ⟨_,rfl,rfl,rfl⟩ ⟨_,rfl,rfl,rfl⟩ d i o r.1 r.2 (by rw[List.getElem?_map,hz];rfl)
  refine⟨?_, ?_⟩
  ·rw[World.var?_cell gBin b];simpa using e.1
  ·rw[World.var?_cell gBin b];simpa using e.2
 have m:Qfp=rowsBin.flatMap fun r=>[Value.string ⟨r.1.toArray⟩,.int .i64 r.2]:=rfl
 refine⟨fun j v hv => ?_,tlt_cell (a 0 _ rfl).1⟩
 rw[m]at hv
 obtain⟨i,r,k,s⟩:=pairs_at rowsBin j v hv
 rw[Nat.zero_add]
 rcases s with⟨rfl,rfl⟩|⟨rfl,rfl⟩
 ·exact(a i r k).1
 ·exact(a i r k).2
def rowsBuilt : List (List UInt8 × Int):=[([],0),([114,101,97,100],1),([104,97,115],1),([108,105,115,116],1),([116,111,111,108],2),([97,114,103],0),([108,101,110],1),([97,116],2),([99,117,116],3),([102,105,110,100],2),([99,104,114],1),([100,101,99],1),([110,117,109],1)]
theorem tabBuilt {W:World} {r:List (String × DataW Unit)} (h:laidMet prog (("loop.example/kilnmill/impl.builtWords",Rows.laid_loop_example_kilnmill_impl_builtWords)::r) W):W.rangeAt 2 0 Qat/\2 < W.heap.size:=by
 obtain⟨u,⟨t,x,l,c,p,q,f,g,b,n,_,_⟩,_⟩:=h
 obtain rfl:=Option.some.inj (gBuilt.symm.trans f)
 obtain rfl:=Option.some.inj (gBuiltT.symm.trans g)
 have d:DataW.trod _ prog W _ _ _ c _ l.toList=some (.agg (rowsBuilt.map fun r => .agg [.lit (.string r.1),.lit (.int .i64 r.2)]),p):=n
 have a:∀ i r,rowsBuilt[i]? = some r->W.cell? (OK 2 (i * 2))=some (.string ⟨r.1.toArray⟩)/\W.cell? (OK 2 (i * 2+1))=some (.int .i64 r.2):=fun i r hz=>by
  have o:i < 13:=(List.getElem?_eq_some_iff.1 hz).1
  have e:=pairT underlying186 underlying185 cCalled (by rfl) ⟨_,rfl,rfl,rfl⟩ ⟨_,rfl,rfl,rfl⟩ d i o r.1 r.2 (by rw[List.getElem?_map,hz];rfl)
  refine⟨?_, ?_⟩
  ·rw[World.var?_cell gBuilt b];simpa using e.1
  ·rw[World.var?_cell gBuilt b];simpa using e.2
 have m:Qat=rowsBuilt.flatMap fun r=>[Value.string ⟨r.1.toArray⟩,.int .i64 r.2]:=rfl
 refine⟨fun j v hv => ?_,tlt_cell (a 0 _ rfl).1⟩
 rw[m]at hv
 obtain⟨i,r,k,s⟩:=pairs_at rowsBuilt j v hv
 rw[Nat.zero_add]
 rcases s with⟨rfl,rfl⟩|⟨rfl,rfl⟩
 ·exact(a i r k).1
 ·exact(a i r k).2
theorem tabGreat {W:World} {r:List (String × DataW Unit)} (h:laidMet prog (("loop.example/kilnmill/impl.greatest",Rows.laid_loop_example_kilnmill_impl_greatest)::r) W):Lib.TabIs prog W "loop.example/kilnmill/impl.greatest" .u64 [0,0,0,255,65535,4294967295,18446744073709551615,127,32767,2147483647,9223372036854775807] :=
 Lib.tabIs_of_head (rest:=r) gGreat gGreatT underlying167 underlying103 cU64 cGreat h
theorem greats {W:World} (ht:Lib.TabIs prog W "loop.example/kilnmill/impl.greatest" .u64 [0,0,0,255,65535,4294967295,18446744073709551615,127,32767,2147483647,9223372036854775807]):E8 W:=by
 refine⟨fun t h1 h2 => ?_,tlt_cell (ht.cell gGreat 3 OD)⟩
 rw[ht.cell gGreat t OH]
 have:t=3\/t=4\/t=5\/t=6\/t=7\/t=8\/t=9\/t=10:=OC
 rcases this with rfl|rfl|rfl|rfl|rfl|rfl|rfl|rfl <;> rfl
theorem globs {W:World} (hg:E8 W) {te:TypeId} {pe:Value} (he:W.cell? (OK 7 0)=some (.iface te pe)):Em W :=
 ⟨hg.1,⟨te,pe,he⟩,hg.2,tlt_cell he⟩
theorem builts {W:World} (h:W.rangeAt 2 0 Qat/\2 < W.heap.size):Ed W:=by
 refine⟨fun m h1 h2 => ?_,h.2⟩;have a:=h.1 (m * 2+1);rw[Nat.zero_add]at a;have:m=1\/m=2\/m=3\/m=4\/m=5\/m=6\/m=7\/m=8\/m=9\/m=10\/m=11\/m=12:=OC
 rcases this with rfl|rfl|rfl|rfl|rfl|rfl|rfl|rfl|rfl|rfl|rfl|rfl <;> exact a _ rfl
theorem errOf {W:World} {r:List (String × DataW Unit)} (h:laidMet prog (("strconv.ErrRange",Rows.laid_strconv_ErrRange)::r) W):∃ te pe,W.cell? (OK 7 0)=some (.iface te pe):=by
 obtain⟨a,s,b,_⟩:=laid_sentinel (g:=7) h gErr gErrT underlying141 rowErr underlying280 underlying282 rfl rfl underlying9 cErr cString
 exact⟨_,_,by simpa using World.var?_cell gErr b 0⟩
theorem gPow : prog.globalNamed "internal/strconv.uint64pow10" = some 8:=OE
theorem gPowT : (prog.globals[8]?).map (·.type)=some 277:=OE
theorem cPow : prog.cellsOf 277=20:=OE
theorem var_below {W W':World} {n:String} {g:Nat} {cs:Array Value} (hg:prog.globalNamed n=some g) (h:W.var? prog n=some cs) (hb:Below W.heap.size W W'):W'.var? prog n=some cs:=by
 unfold World.var? at h |-
 rw[hg]at h |-
 simp only[Option.bind_some]at h |-
 rw[hb.block g ?_]
 ·exact h
 ·split at h
  ·rename_i hb;exact(Array.getElem?_eq_some_iff.1 hb).1
  ·cases h
theorem tabs {W:World} (h:Vp W):E0 W.heap.size W:=by
 refine⟨fun t h1 => ?_,fun t h1 h2 => ?_,fun t h1 h2 => ?_,fun t h1 h2 => ?_,h.gt⟩
 ·have a:=h.t t;rw[Nat.zero_add]at a;have:t=0\/t=1\/t=2\/t=3\/t=4\/t=5\/t=6\/t=7\/t=8\/t=9\/t=10:=OC
  rcases this with rfl|rfl|rfl|rfl|rfl|rfl|rfl|rfl|rfl|rfl|rfl <;> exact a _ rfl
 ·have a:=h.u t;rw[Nat.zero_add]at a;have:t=1\/t=2\/t=3:=OC
  rcases this with rfl|rfl|rfl <;> exact a _ rfl
 ·have a:=h.b (t * 2);rw[Nat.zero_add]at a;have:t=1\/t=2\/t=3\/t=4\/t=5\/t=6\/t=7\/t=8\/t=9\/t=10\/t=11\/t=12\/t=13\/t=14\/t=15\/t=16\/t=17\/t=18:=OC
  rcases this with rfl|rfl|rfl|rfl|rfl|rfl|rfl|rfl|rfl|rfl|rfl|rfl|rfl|rfl|rfl|rfl|rfl|rfl <;> exact a _ rfl
 ·have a:=h.d (t * 2);rw[Nat.zero_add]at a;have:t=1\/t=2\/t=3\/t=4\/t=5\/t=6\/t=7\/t=8\/t=9\/t=10\/t=11\/t=12:=OC
  rcases this with rfl|rfl|rfl|rfl|rfl|rfl|rfl|rfl|rfl|rfl|rfl|rfl <;> exact a _ rfl
theorem envOf {W:World} (h:laidMetH prog Rows.fnPrintRow.laid W):Sm W:=by
 have l:laidMet prog Rows.fnPrintRow.laid W:=h
 have g:=laidMet.tail (laidMet.tail l)
 have o:Lib.TabIs prog W "internal/strconv.uint64pow10" .u64 Lib.pow10Tab:=Lib.tabIs_of_head (zs:=Lib.pow10Tab) gPow gPowT underlying277 underlying103 cU64 cPow g
 have i:=laidMet.tail g
 have j:=laidMet.tail (laidMet.tail i)
 have b:=laidMet.tail j
 have c:=laidMet.tail b
 have d:=laidMet.tail c
 have m:=laidMet.tail d
 obtain⟨q,p,n⟩:=errOf i
 have f:=greats (tabGreat j)
 have a:=tabBuilt m
 have k:Vp W:=⟨(tabType b).1,(tabUn c).1,(tabBin d).1,a.1,⟨(tabType b).2,(tabUn c).2,(tabBin d).2,a.2⟩,f,builts a⟩
 exact⟨f,builts a,tabs k,fun w1 h1=>var_below gPow o h1,k,globs f n⟩
end Pf
end Go.Proofs.YtjlaedokfbcbpaaGreatDoor
