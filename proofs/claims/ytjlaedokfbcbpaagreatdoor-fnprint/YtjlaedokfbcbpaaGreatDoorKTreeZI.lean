import Derived.Test.YtjlaedokfbcbpaaGreatDoorKQaR
import Derived.Defers
import Derived.Recover
set_option maxRecDepth 100000
set_option maxHeartbeats 2000000
namespace Go.Proofs.YtjlaedokfbcbpaaGreatDoor
open Go.RowKit Proofs.Tryz
theorem rootOf_any (ns:List Ae) (v:Value) (w:World) (hN:Bz w v ns) (hs:∀ d ∈ ns,d.text.size<=1048576) (hG:E8 w) (hW:Ed w) :
  Calls prog 13 #[.agg #[v]] w fun e w'=>Nl w ns e w':=by
 by_cases hl:ns.length<=12001
 ·exact rootOf_short ns v w hN hl hs hG hW
 ·have c:Hid (Bj ns=false):=by rw[Hid,Bj];simp[hl]
  obtain⟨a,f,rfl,b⟩:=hN;clear b;generalize ns.length=n at *;go_enter func13,ntmps13;go_wp2;exact bodyPost_ret (v:=.tuple #[.agg #[.slice none 0 0],.bool false]) (by simp[results,results13,go_sem]) rfl (Ix c ((OP w _).alloc OF _))
theorem implValid_any (ns:List Ae) (v:Value) (w:World) (hN:Bz w v ns) (hs:∀ d ∈ ns,d.text.size<=1048576) (hG:E8 w) (hW:Ed w) :
  Calls prog 7 #[.agg #[v]] w fun e w'=>e = .returned (.bool (Bj ns))/\Below w.heap.size w w':=by
 have b:∀ o:Obj,Below w.heap.size w (w.alloc o):=fun o=>OP w o
 have i:Hid (∀ d ∈ ns,d.text.size<=1048576):=hs;clear hs;have g:∃ a c,v = .slice a ns.length c:=by obtain⟨a,c,h,_⟩:=hN;exact⟨a,c,h⟩
 obtain⟨a,j,rfl⟩:=g;generalize hn:ns.length=n at *;go_enter func7,ntmps7;go_wp2_with (go_at_call 13;(refine(rootOf_any ns _ _ (E9 hN (b _)) i.out (hG.below (b _)) (hW.below (b _))).mono ?_;rintro e q ⟨⟨l,p,m,rfl,_⟩,f⟩;rw[World.size_alloc]at f));go_ret;have k:=f.size;rw[World.size_alloc]at k;exact⟨rfl,((b _).trans (f.mono (Nat.le_succ _))).alloc OC _⟩
theorem Qew (b0 b1:Nat) (w:World) :
  CallsD prog 21 #[.pointer (some (OK b0 0)),.pointer (some (OK b1 0))] .returning w fun e u' w'=>e = .returned (.tuple #[])/\u' = .returning/\w'=w:=by
 refine callsD_of_wpS func21 rfl fun c₀ cs hu => ?_
 apply wpS_seq;apply wpS_region;simp[wpOpsS,go_sem,recoverD,hu,ntmps21,Exit.thenS];apply wpS_seq;apply wpS_region;simp[wpOpsS,go_sem,Exit.thenS];refine wpS_cond (t:=false) (by simp[Act.eval,Array.replicate]) ?_;simp only[Bool.false_eq_true,if_false];refine wpS_of_wp (wp_skip ?_);cases c₀
 simp_all [bodyPostS,results,results21]
def Qbr (out:List Ae) (k:Nat):List Ae:=out++[⟨24,0,0,0,⟨#[]⟩,(k:Int)⟩]
theorem Qhf (l:List Aa):Fq (Co 24 0 0 [] l)=Qbr (Cx l) l.length:=by
 rw[Qlc,Qbr];rfl
variable {ts:List (Ab × Nat)}
theorem Qjx (ts:List (Ab × Nat)) (i:Nat) (h:i < ts.length) (j:Nat) (hj:j < 5):(H8 ts)[i * 5+j]? = (Lh ts[i])[j]?:=by
 exact DdScanMx19
theorem Qll {w:World} {B:Nat} {v:Value} (h:w.ownsRow B 113 5 v ts.length (H8 ts)):∃ a c,v = .slice a ts.length c/\ts.length<=c/\Zj w a ts w.heap.size:=by
 rcases h.2 with⟨rfl,l⟩|⟨g,f,k,rfl,n,b,d,_⟩
 ·exact⟨none,0,by rw[l],by omega,fun i hi=>OC⟩
 ·refine⟨_,_,rfl,d,fun i hi=>⟨g,rfl,(Array.getElem?_eq_some_iff.1 b).1,fun j u hu => ?_⟩⟩;have m:j < 5:=by have:=(List.getElem?_eq_some_iff.1 hu).1;simpa[Lh]using this
  rw[h.cellAt (i * 5+j) OC,<- hu];exact Qjx ts i hi j m
def Qo4 (ns:List Ae) (w:World) (e:Ending) (w':World):Prop:=Below w.heap.size w w'/\∃ va vc,e = .returned (.tuple #[.agg #[.slice va ns.length vc],.agg #[.int .i64 0,.int .i64 0]])/\Na w.heap.size w' (.slice va ns.length vc) ns
structure Vp (w:World):Prop where
 t:w.rangeAt 0 0 Qfu
 u:w.rangeAt 3 0 Qfv
 b:w.rangeAt 4 0 Qfp
 d:w.rangeAt 2 0 Qat
 gt:0 < w.heap.size/\3 < w.heap.size/\4 < w.heap.size/\2 < w.heap.size
 gr:E8 w
 bu:Ed w
theorem Vp.below {w w':World} (h:Vp w) (hb:Below w.heap.size w w'):Vp w':=by
 obtain⟨a,b,c,d⟩:=h.gt;have f:=hb.size;exact⟨fun j v hv=>(hb.cell (by exact a)).trans (h.t j v hv),fun j v hv=>(hb.cell (by exact b)).trans (h.u j v hv),fun j v hv=>(hb.cell (by exact c)).trans (h.b j v hv),fun j v hv=>(hb.cell (by exact d)).trans (h.d j v hv),⟨by omega,by omega,by omega,by omega⟩,h.gr.below hb,h.bu.below hb⟩
theorem Vp.tb {w w':World} {g:Nat} (h:Vp w) (hb:Below w.heap.size w w') (h1:w.heap.size<=g) (h2:g < w'.heap.size):Eg g w':=by
 have k:=h.below hb;obtain⟨a,b,c,d⟩:=h.gt;exact⟨k.t,k.u,k.b,k.d,⟨by omega,by omega,by omega,by omega⟩,h2⟩
theorem Qfr (a b x y:Int) (w:World):(Op.equalIn 10000 30 (.agg #[.int .i64 a,.int .i64 b]) (.agg #[.int .i64 x,.int .i64 y])).run prog w = .ok (a == x && b == y) w:=by
 have f:=underlying3;have c:prog.underlying 30=some (.struct (prog.fieldsOf 30)):=OE
 have d:prog.stoodInHeld 30=false:=OE
 rw[show (10000:Nat)=9999+1 from rfl,run_equalIn_agg w 9999 30 _ _ c d];simp only[Program.fieldsOf,underlying30];go_simp;by_cases h1:a=x <;> by_cases h2:b=y <;> simp[h1,h2]
theorem Qhh : prog.eqGuardType prog.depth 30=false:=OE
structure N8 (w:World) (W:World) (a:Option Addr) (n c:Nat) (y0 y1:Int):Prop where
 B:Below w.heap.size w W
 tr:W.heap[w.heap.size]? = some (.cells #[.slice a n c] 25)
 fa:W.heap[w.heap.size+1]? = some (.cells #[.int .i64 y0,.int .i64 y1] 30)
variable {w W W2:World} {a:Option Addr} {n c:Nat} {y0 y1:Int}
theorem N8.below (h:N8 w W a n c y0 y1) (hb:Below W.heap.size W W2):N8 w W2 a n c y0 y1 :=
 ⟨h.B.trans (hb.mono h.B.size),(hb.block _ (Array.getElem?_eq_some_iff.1 h.tr).1).trans h.tr,(hb.block _ (Array.getElem?_eq_some_iff.1 h.fa).1).trans h.fa⟩
theorem N8.cells (h:N8 w W a n c y0 y1):W.cell? (OK w.heap.size 0)=some (.slice a n c)/\W.cell? (OK (w.heap.size+1) 0)=some (.int .i64 y0)/\W.cell? (OK (w.heap.size+1) 1)=some (.int .i64 y1)/\(∀ k,W.frozen? (OK w.heap.size k)=false)/\∀ k,W.frozen? (OK (w.heap.size+1) k)=false:=by
 have d:=h.tr;have b:=h.fa;refine⟨?_, ?_, ?_,fun k => ?_,fun k => ?_⟩
 ·rw[Lib.cell_of_heap d];rfl
 ·rw[Lib.cell_of_heap b];rfl
 ·rw[Lib.cell_of_heap b];rfl
 ·simp[World.frozen?,d]
 ·simp[World.frozen?,b]
theorem N8.tree (h:N8 w W a n c y0 y1) (a':Option Addr) (n' c':Nat):N8 w (W.setCell (OK w.heap.size 0) (.slice a' n' c')) a' n' c' y0 y1 :=
 ⟨h.B.setCell ON _,by simp[World.setCell,Array.getElem?_modify,h.tr],(Below.heap_setCell _ _ _ _ OF).trans h.fa⟩
theorem N8.flt (h:N8 w W a n c y0 y1) (z0 z1:Int):N8 w ((W.setCell (OK (w.heap.size+1) 0) (.int .i64 z0)).setCell (OK (w.heap.size+1) 1) (.int .i64 z1)) a n c z0 z1 :=
 ⟨(h.B.setCell OF _).setCell OF _,((Below.heap_setCell _ _ _ _ OF).trans (Below.heap_setCell _ _ _ _ OF)).trans h.tr,by simp[World.setCell,Array.getElem?_modify,h.fa]⟩
theorem N8.start (w:World):N8 w ((w.alloc (.cells #[.slice none 0 0] 25)).alloc (.cells #[.int .i64 0,.int .i64 0] 30)) none 0 0 0 0:=by
 have a:Below (w.alloc (.cells #[.slice none 0 0] 25)).heap.size (w.alloc (.cells #[.slice none 0 0] 25)) ((w.alloc (.cells #[.slice none 0 0] 25)).alloc (.cells #[.int .i64 0,.int .i64 0] 30)):=OP _ _;have c:=heap_alloc_new w (.cells #[.slice none 0 0] 25);have b:=heap_alloc_new (w.alloc (.cells #[.slice none 0 0] 25)) (.cells #[.int .i64 0,.int .i64 0] 30);rw[World.size_alloc]at b;exact⟨(OP _ _).alloc OF _,(a.block _ OF).trans c,b⟩
theorem N8.fr {g:Nat} (h:N8 w W a n c y0 y1) (hF:Bl g W W2) (hg:w.heap.size+1 < g):N8 w W2 a n c y0 y1 :=
 ⟨h.B.trans (hF.below h.B.size OC),(hF.keep _ (Array.getElem?_eq_some_iff.1 h.tr).1 OC).trans h.tr,(hF.keep _ (Array.getElem?_eq_some_iff.1 h.fa).1 OC).trans h.fa⟩
theorem Cz.made {ts:List (Ab × Nat)} {ta:Option Addr} {tc E:Nat} (htk:Zj W ta ts W.heap.size) (hl:ts.length<=12000) (hc:ts.length<=tc):Cz ts W.heap.size ta tc E 0 (W.alloc (.cells #[.slice ta ts.length tc,.int .i64 0,.int .i64 (E:Int)] 74)) :=
 ⟨heap_alloc_new _ _,htk.keep fun k hk=>(OP _ _:Below W.heap.size W _).block k hk,Nat.zero_le _,hl,hc⟩
theorem Zn (src:ByteArray) (_hsz:src.size<=9223372036854775807) (ts:List (Ab × Nat)) (x:List Aa × Nat) (N0:Nat) (hq:Ic ts N0 [] 0=some (.ok x)) (hGd:Gc ts) (hlen:ts.length<=12000) (hT:Vp w) (hl:(Fq (Co 24 0 0 [] x.1)).length<=1000000) (hx:∀ d ∈ Fq (Co 24 0 0 [] x.1),d.text.size<=1048576) (hro:Bj (Fq (Co 24 0 0 [] x.1))=true) (hs:∀ W,Below w.heap.size w W->Calls prog 23 #[.string src] W fun e w'=>Lp W (ts,0,0) e w') :
  Calls prog 9 #[.string src] w (Qo4 (Fq (Co 24 0 0 [] x.1)) w):=by
 have af:∀ (fn:Fn) (first cap:Array Value) (w:World),(Instr.makeFunc fn first cap).run prog w = .ok (.func fn first cap) w:=fun _ _ _ _=>rfl
 have HS:Hid (∀ W,Below w.heap.size w W->Calls prog 23 #[.string src] W fun e w'=>Lp W (ts,0,0) e w'):=hs;have HE:Hid (∀ (g:Nat) (a:Option Addr) (c:Nat) (W:World),Eg g W->Cz ts g a c src.size 0 W->Calls prog 25 #[.pointer (some (OK g 0))] W (Qmq ts g a c src.size x W)):=fun g a c W hb hp=>Qjq hGd N0 _ hq hb hp
 obtain⟨C,T⟩:∃ C,Hid (Fq (Co 24 0 0 [] x.1)=C):=⟨_,rfl⟩;obtain⟨N,R⟩:∃ N,Hid (C.length=N):=⟨_,rfl⟩;rw[T.out]at hl hx hro |-
 have S:Hid (∀ (v:Value) (W:World),Ck 0 W (Co 24 0 0 [] x.1) v->Calls prog 24 #[.slice none 0 0,v] W fun e w' => ∃ k l,e = .returned (.slice k N l)/\Na W.heap.size w' (.slice k N l) C/\Below W.heap.size W w'):=fun v W hr=>by
  have F:=Qey (Co 24 0 0 [] x.1) v W W.heap.size ON (Ba.below (fun b h=>h.2) (fun b h=>rfl) _ _ hr) (by rw[T.out];exact hl);rw[T.out,R.out]at F;exact F
 have HV:Hid (∀ (v:Value) (W:World),Bz W v C->Vp W->Calls prog 7 #[.agg #[v]] W fun e w'=>e = .returned (.bool true)/\Below W.heap.size W w'):=fun v W hn ht=>by
  have F:=implValid_any C v W hn hx ht.gr ht.bu;rw[hro]at F;exact F
 have B:=N8.start w;have ag:=Qfr;have ae:=Qhh;clear hs;go_enter_defers func9,ntmps9;go_wp2_with (first
  | (go_at_call 23;refine(HS.out _ B.B).mono ?_;rintro e Q ⟨v,rfl,L,hb⟩;simp only[Qaf];have q:=ownsRow_setCell_below (a:=(OK (w.heap.size+1) 1)) (ownsRow_setCell_below (a:=(OK (w.heap.size+1) 0)) L OF (.int .i64 0)) OF (.int .i64 0);obtain⟨ta,tc,rfl,ad,P⟩:=Qll q;replace B:=B.below hb;obtain⟨c0,c1,c2,f0,f1⟩:=B.cells;have m:=B.flt 0 0;have s:w.heap.size+2<=Q.heap.size:=(Array.getElem?_eq_some_iff.1 B.fa).1;have O:((Q.setCell (OK (w.heap.size+1) 0) (.int .i64 0)).setCell (OK (w.heap.size+1) 1) (.int .i64 0)).heap.size=Q.heap.size:=(by simp[World.setCell]);obtain⟨t,u,y,z,A⟩:=m.cells)
  | (go_at_call 25;obtain⟨D,aa⟩:∃ D,(Q.setCell (OK (w.heap.size+1) 0) (.int .i64 0)).setCell (OK (w.heap.size+1) 1) (.int .i64 0)=D:=⟨_,rfl⟩;rw[aa]at m P O t u y z A |-;rw[<- O]at s |-;have U:=Cz.made (E:=src.size) P hlen ad;have ab:Below D.heap.size D (D.alloc (.cells #[.slice ta ts.length tc,.int .i64 0,.int .i64 (src.size:Int)] 74)):=OP _ _;have G:=m.below ab;have Z:=hT.tb G.B (Nat.le_trans (Nat.le_succ_of_le (Nat.le_succ _)) s) OF;refine(HE.out _ _ _ _ Z U).mono ?_;rintro e V ⟨ra,rn,rc,rfl,hR,X⟩;have n:=G.fr X.2 s;have Y:=hR.mono (Nat.zero_le _);clear t u y z A;obtain⟨t,u,y,z,A⟩:=n.cells)
  | (go_at_call 24;refine(S.out _ _ Y).mono ?_;rintro e V5 ⟨k,l,rfl,M,ac⟩;have H:=n.below ac;have ah:w.heap.size+2<=V.heap.size:=(Array.getElem?_eq_some_iff.1 n.fa).1;have o:=H.tree k N l;clear t u y z A;obtain⟨t,u,y,z,A⟩:=H.cells;have i:=ownsRow_setCell_below (a:=(OK w.heap.size 0)) M OJ (.slice k N l);obtain⟨k0,k1,k2,g0,g1⟩:=o.cells)
  | (go_at_call 7;refine(HV.out _ _ (M9 i) (hT.below o.B)).mono ?_;rintro e V7 ⟨rfl,K⟩;have I:=o.below K;have r:=K5 i K;clear k0 k1 k2 g0 g1 t u y z A;obtain⟨k0,k1,k2,g0,g1⟩:=I.cells))
 refine leaves_cons (f:=21) (args := #[.pointer (some (OK w.heap.size 0)),.pointer (some (OK (w.heap.size+1) 0))]) OF (by simp[go_sem]) ?_;refine(Qew _ _ _).mono ?_;rintro e u' ai ⟨rfl,rfl,rfl⟩;have p:=(I.tree k N l).flt 0 0;have j:=ownsRow_setCell_below (a:=(OK (w.heap.size+1) 1)) (ownsRow_setCell_below (a:=(OK (w.heap.size+1) 0)) (ownsRow_setCell_below (a:=(OK w.heap.size 0)) r OJ (.slice k N l)) OJ (.int .i64 0)) OJ (.int .i64 0);obtain⟨m0,m1,m2,_,_⟩:=p.cells;obtain⟨V8,J⟩:∃ V8,((V7.setCell (OK w.heap.size 0) (.slice k N l)).setCell (OK (w.heap.size+1) 0) (.int .i64 0)).setCell (OK (w.heap.size+1) 1) (.int .i64 0)=V8:=⟨_,rfl⟩;rw[J]at p j m0 m1 m2 |-
 clear J;simp[Leaves,settle,results,results9,go_sem,m0,m1,m2];refine⟨p.B,k,l,by rw[R.out], ?_⟩;rw[R.out];exact Uc j OC
def Qcw (p:Ab):Prop:=(p.kind=5->p.text ∈ Dt)/\(p.kind=2->p.text ∉ Dt/\p.text≠[])
theorem Qli : ∀ m ∈ Dt,∀ b ∈ m.head?,Bp (b.toNat:Int)=false:=by decide
theorem Qjk (l:List UInt8):Qcw (Bb l):=by
 unfold Bb;split
 ·exact⟨fun h=>by simp[Bi]at h,fun h=>by simp[Bi]at h⟩
 split
 ·rename_i b r hl
  unfold F1;split
  ·refine⟨fun h=>by simp at h,fun _=>⟨fun hm => ?_,by simp[A5,B5,Dc,hl]⟩⟩;have a:=Qli _ hm b (by simp[A5,B5,Dc,hl]);rw[a]at hl;simp at hl
  split
  ·exact⟨fun h=>by simp[Bi]at h,fun h=>by simp[Bi]at h⟩
  ·exact⟨fun h=>by simp at h,fun h=>by simp at h⟩
 split
 ·unfold E1;split
  ·exact⟨fun h=>by simp[Bi]at h,fun h=>by simp[Bi]at h⟩
  ·exact⟨fun h=>by simp at h,fun h=>by simp at h⟩
 split
 ·unfold D1;split
  ·exact⟨fun h=>by simp[Bi]at h,fun h=>by simp[Bi]at h⟩
  split
  ·exact⟨fun h=>by simp[Bi]at h,fun h=>by simp[Bi]at h⟩
  ·exact⟨fun h=>by simp at h,fun h=>by simp at h⟩
 ·unfold Fl;split
  ·rename_i m hm
   exact⟨fun _=>List.mem_of_find?_eq_some hm,fun h=>by simp at h⟩
  ·exact⟨fun h=>by simp[Bi]at h,fun h=>by simp[Bi]at h⟩
theorem Qe0 : ∀ (f:Nat) (l:List UInt8) (i:Nat) (acc:List (Ab × Nat)),(∀ p ∈ acc,Qcw p.1)->(∀ p ∈ (Ew f l i acc).1,Qcw p.1)/\(Ew f l i acc).1.length<=acc.length+l.length:=by
 intro f;induction f with
 | zero=>intro l i acc h;rw[Ew];exact⟨h,by simp⟩
 | succ f ih =>
  intro l i acc h;cases l with
  | nil=>rw[Ew];exact⟨h,by simp⟩
  | cons b r =>
   rw[Ew];split
   ·have:=ih r (i+1) acc h;exact⟨this.1,by simp;omega⟩
   split
   ·have:=ih ((b::r).drop (Ez (b::r))) (i+Ez (b::r)) acc h;refine⟨this.1, ?_⟩;have a:=this.2;rw[List.length_drop]at a;omega
   split
   ·exact⟨by simp,by simp⟩
   ·rename_i h0
    have d:=(Vf b r (by simpa using h0)).1;have:=ih ((b::r).drop (Bb (b::r)).size) (i+(Bb (b::r)).size) (acc++[(Bb (b::r),i)]) (by
     intro p c
     rw[List.mem_append,List.mem_singleton]at c
     rcases c with c|rfl
     ·exact h p c
     ·exact Qjk _)
    refine⟨this.1, ?_⟩;have a:=this.2;rw[List.length_drop,List.length_append]at a;simp only[List.length_cons,List.length_nil]at a |-
    omega
theorem Qhl {src:ByteArray} {ts:List (Ab × Nat)} {c:Int} {P:Nat} (h:Hi src=(ts,c,P)):Gc ts/\ts.length<=12000:=by
 unfold Hi at h;split at h
 ·simp only[Prod.mk.injEq]at h;rw[<- h.1];exact⟨⟨fun i h=>by simp[Dm]at h,fun i h=>by simp[Dm]at h,fun i h=>by simp[Dm]at h⟩,by simp⟩
 ·rename_i hs
  obtain⟨a,b⟩:=Qe0 (src.size+1) src.data.toList 0 [] OF;rw[h]at a b;simp only at a b;have d:src.data.toList.length=src.size:=by rw[Array.length_toList];rfl
  refine⟨⟨fun i h => ?_,fun i h => ?_,fun i h => ?_⟩,by simp only[List.length_nil]at b;omega⟩
  ·unfold Dm at h;unfold B8;split at h
   ·rename_i p hp
    exact(a p (List.mem_of_getElem? hp)).1 h
   ·simp at h
  ·unfold Dm at h;unfold B8;split at h
   ·rename_i p hp
    exact((a p (List.mem_of_getElem? hp)).2 h).1
   ·simp at h
  ·unfold Dm at h;unfold B8;split at h
   ·rename_i p hp
    exact((a p (List.mem_of_getElem? hp)).2 h).2
   ·simp at h
def E4 (ts:List (Ab × Nat)) (i:Nat) (X:List Ab):Prop := ∃ r,(ts.map Prod.fst).drop i=X++r
theorem E4.left {ts:List (Ab × Nat)} {i:Nat} {X Y:List Ab} (h:E4 ts i (X++Y)):E4 ts i X:=by
 obtain⟨r,h⟩:=h;exact⟨Y++r,by rw[h,List.append_assoc]⟩
theorem E4.right {ts:List (Ab × Nat)} {i:Nat} {X Y:List Ab} (h:E4 ts i (X++Y)):E4 ts (i+X.length) Y:=by
 obtain⟨r,h⟩:=h;exact⟨r,by rw[<- List.drop_drop,h,List.append_assoc,List.drop_left]⟩
theorem E4.tail {ts:List (Ab × Nat)} {i:Nat} {p:Ab} {X:List Ab} (h:E4 ts i (p::X)):E4 ts (i+1) X:=E4.right (X:=[p]) h
theorem E4.get {ts:List (Ab × Nat)} {i:Nat} {p:Ab} {X:List Ab} (h:E4 ts i (p::X)):∃ k,ts[i]? = some (p,k):=by
 obtain⟨r,h⟩:=h;have b:(ts.map Prod.fst)[i]? = some p:=by
  have:=congrArg (fun l=>l[0]?) h;simpa using this
 rw[List.getElem?_map,Option.map_eq_some_iff]at b;obtain⟨⟨a,k⟩,c,rfl⟩:=b;exact⟨k,c⟩
theorem E4.kd {ts:List (Ab × Nat)} {i:Nat} {p:Ab} {X:List Ab} (h:E4 ts i (p::X)):Dm ts i=p.kind:=by
 obtain⟨k,h⟩:=h.get;simp[Dm,h]
theorem E4.tx {ts:List (Ab × Nat)} {i:Nat} {p:Ab} {X:List Ab} (h:E4 ts i (p::X)):B8 ts i=p.text:=by
 obtain⟨k,h⟩:=h.get;simp[B8,h]
theorem E4.ty {ts:List (Ab × Nat)} {i:Nat} {p:Ab} {X:List Ab} (h:E4 ts i (p::X)):P8 ts i=p.type:=by
 obtain⟨k,h⟩:=h.get;simp[P8,h]
theorem E4.nm {ts:List (Ab × Nat)} {i:Nat} {p:Ab} {X:List Ab} (h:E4 ts i (p::X)):P3 ts i=p.n:=by
 obtain⟨k,h⟩:=h.get;simp[P3,h]
theorem E4.st {ts:List (Ab × Nat)} {i:Nat} {p:Ab} {X:List Ab} (h:E4 ts i (p::X)) (k:Int) (T:List UInt8):Bq ts k T i=(p.kind == k && p.text == T):=by
 rw[Bq,h.kd,h.tx]
def Fe {α:Type} (f:Nat->Jz α) (a:α) (j:Nat):Prop := ∃ N,∀ n,N<=n->f n=some (.ok (a,j))
theorem Fe.step {α β:Type} {f:Nat->Jz α} {g:Nat->Jz β} {a:α} {b:β} {j k:Nat} (h:Fe f a j) (hg:∀ n,f n=some (.ok (a,j))->g (n+1)=some (.ok (b,k))):Fe g b k:=by
 obtain⟨N,h⟩:=h;exact⟨N+1,fun n hn=>by obtain⟨m,rfl⟩:∃ m,n=m+1:=⟨n - 1,by omega⟩;exact hg m (h m OC)⟩
theorem Fe.two {α β γ:Type} {f:Nat->Jz α} {f2:Nat->Jz γ} {g:Nat->Jz β} {a:α} {c:γ} {b:β} {j j2 k:Nat} (h:Fe f a j) (d:Fe f2 c j2) (hg:∀ n,f n=some (.ok (a,j))->f2 n=some (.ok (c,j2))->g (n+1)=some (.ok (b,k))):Fe g b k:=by
 obtain⟨N,h⟩:=h;obtain⟨M,d⟩:=d;exact⟨N+M+1,fun n hn=>by obtain⟨m,rfl⟩:∃ m,n=m+1:=⟨n - 1,by omega⟩;exact hg m (h m OC) (d m OC)⟩
theorem Fe.now {β:Type} {g:Nat->Jz β} {b:β} {k:Nat} (hg:∀ n,g (n+1)=some (.ok (b,k))):Fe g b k:=⟨1,fun n hn=>by obtain⟨m,rfl⟩:∃ m,n=m+1:=⟨n - 1,by omega⟩;exact hg m⟩
theorem A4 {α β:Type} (a:α) (j:Nat) (f:α->Nat->Jz β):Dj (some (.ok (a,j))) f=f a j:=rfl
def E6 (x:List UInt8):Ab:=⟨2,x,0,0,x.length,0⟩
def Bf (x:List UInt8):Ab:=⟨5,x,0,0,x.length,0⟩
def Kz (x:List UInt8):Ab:=⟨1,x,0,0,x.length,0⟩
def Cm : List (List Ab)->List Ab
 | []=>[]
 | x::r=>x++r.flatMap (fun y=>Bf [44]::y)
def Hj (p:Ab) (xs:List (List Ab)):List Ab:=p::Bf [40]::(Cm xs++[Bf [41]])
def Fh (k:Int) (x:List Ab):List Ab:=if k=6 then Bf [40]::(x++[Bf [41]]) else x
def Ig (d:Ae) (kd:List Int) (xs:List (List Ab)):List Ab :=
 if d.kind=1 then [⟨3,[],d.type,d.n,(C2 d [] []).size,0⟩]
 else if d.kind=2 then [⟨4,d.text.data.toList,0,0,(C2 d [] []).size,0⟩]
 else if d.kind=3 then [E6 (if d.n=1 then [116,114,117,101] else [102,97,108,115,101])]
 else if d.kind=4 then [Kz d.text.data.toList]
 else if d.kind=5 then Bf (E3 d.op).data.toList::Fh (kd.getD 0 0) (xs.getD 0 [])
 else if d.kind=6 then Fh (kd.getD 0 0) (xs.getD 0 [])++Bf (C0 d.op).data.toList::Fh (kd.getD 1 0) (xs.getD 1 [])
 else if d.kind=7 then Hj (Kz d.text.data.toList) xs
 else if d.kind=8 then Hj (E6 (Av d.op).data.toList) xs
 else Hj (E6 (Ag d.type).data.toList) xs
mutual
def Be : Aa->List Ab
 | .node d ks=>Ig d (ks.map (fun t=>t.nd.kind)) (Z1 ks)
def Z1 : List Aa->List (List Ab)
 | []=>[]
 | t::r=>Be t::Z1 r
end
mutual
def E7 : Aa->Prop
 | .node d ks=>Au d=true/\Ac d.kind d.op (ks.map (fun t=>t.nd.kind))=true/\d=Ay d ks.length/\Oe ks
def Oe : List Aa->Prop
 | []=>True
 | t::r=>E7 t/\Oe r
end
theorem Nj : ∀ l:List Aa,Z1 l=l.map Be
 | []=>by rw[Z1];rfl
 | t::r=>by rw[Z1,Nj r];rfl
theorem Fg : ∀ l:List Aa,Oe l ↔ ∀ t ∈ l,E7 t
 | []=>by rw[Oe];simp
 | t::r=>by rw[Oe,Fg r];simp
theorem Gt (x:ByteArray):Aj x.data.toList=x:=by cases x;simp[Aj]
theorem Qp0 : ∀ k:Fin 3,Lv In (E3 ((k.val+1:Nat):Int)).data.toList=k.val+1:=by decide
theorem Qn9 : ∀ k:Fin 18,Lv G4 (C0 ((k.val+1:Nat):Int)).data.toList=k.val+1:=by decide
theorem Qoa : ∀ k:Fin 18,1<=P6 (k.val+1)/\P6 (k.val+1)<=5:=by decide
theorem Qkp : ∀ k:Fin 12,Lv Ks (Av ((k.val+1:Nat):Int)).data.toList=k.val+1/\(Av ((k.val+1:Nat):Int)).data.toList≠[116,114,117,101]/\(Av ((k.val+1:Nat):Int)).data.toList≠[102,97,108,115,101]:=by decide
theorem Qd0 : ∀ k:Fin 10,Lv I0 (Ag ((k.val+1:Nat):Int)).data.toList=k.val+1/\Lv Ks (Ag ((k.val+1:Nat):Int)).data.toList=0/\(Ag ((k.val+1:Nat):Int)).data.toList≠[116,114,117,101]/\(Ag ((k.val+1:Nat):Int)).data.toList≠[102,97,108,115,101]:=by decide
theorem Jw {o:Int} {n:Nat} (h1:1<=o) (h2:o<=n):∃ k:Fin n,o=((k.val+1:Nat):Int):=⟨⟨(o - 1).toNat,by omega⟩,by simp;omega⟩
theorem Nw {ts:List (Ab × Nat)} {i:Nat} {x:List UInt8} {X:List Ab} (h:E4 ts i (Bf x::X)):Bq ts 5 x i=true:=by rw[h.st];simp[Bf]
theorem I7 {ts:List (Ab × Nat)} {i:Nat} {x:List UInt8} {X:List Ab} (h:E4 ts i (E6 x::X)):Bq ts 2 x i=true:=by rw[h.st];simp[E6]
theorem I5 {ts:List (Ab × Nat)} {i:Nat} {x:List UInt8} {X:List Ab} (h:E4 ts i (Bf x::X)):Kd ts 5 x i=some (.ok ((),i+1)):=by rw[Kd,Nw h];rfl
def Qmw (ts:List (Ab × Nat)) (j:Nat):Prop:=Bq ts 5 [40] j=false
theorem Of {ts:List (Ab × Nat)} {i:Nat} {x:List UInt8} {X:List Ab} (h:E4 ts i (Bf x::X)):Js ts i=Lv G4 x:=by rw[Js,h.kd,h.tx];simp[Bf]
theorem Qu {ts:List (Ab × Nat)} {i:Nat} {x:List UInt8} {X:List Ab} (h:E4 ts i (Bf x::X)) (hx:x≠[40]):Qmw ts i:=by
 rw[Qmw,h.st];simpa[Bf]using hx
def Q4 (t:Aa):Prop := ∀ (ts:List (Ab × Nat)) (i:Nat),E4 ts i (Be t)->Qmw ts (i+(Be t).length) ->
 (t.nd.kind≠6->Fe (fun n=>Fx ts n i) t (i+(Be t).length))/\(Js ts (i+(Be t).length)=0->Fe (fun n=>Ds ts n 1 i) t (i+(Be t).length))
theorem Ys {ts:List (Ab × Nat)} {j:Nat} (h:Js ts j=0) (n l m:Nat) (hl:1<=l) (t:Aa):Iz ts (n+1) l m t j=some (.ok (t,j)):=by
 rw[Iz,h,if_pos (Or.inl (by simp[P6];omega))]
theorem Qdw {ts:List (Ab × Nat)} {i j:Nat} {t:Aa} (h:Fe (fun n=>Fx ts n i) t j) (hm:Js ts j=0) (l:Nat) (hl:1<=l):Fe (fun n=>Ds ts n l i) t j:=by
 obtain⟨N,h⟩:=h;refine⟨N+2,fun n hn => ?_⟩;obtain⟨m,rfl⟩:∃ m,n=m+1+1:=⟨n - 2,by omega⟩;show Ds ts (m+1+1) l i=_
 have a:Fx ts (m+1) i=_:=h (m+1) OC;rw[Ds,a,A4,Ys hm _ _ _ hl]
theorem Wu {t:Aa} (h:Q4 t) {ts:List (Ab × Nat)} {i:Nat} (ha:E4 ts i (Fh t.nd.kind (Be t))) (hx:Qmw ts (i+(Fh t.nd.kind (Be t)).length)):Fe (fun n=>Fx ts n i) t (i+(Fh t.nd.kind (Be t)).length):=by
 by_cases h6:t.nd.kind=6
 ·have e:Fh t.nd.kind (Be t)=Bf [40]::(Be t++[Bf [41]]):=by rw[Fh,if_pos h6]
  rw[e]at ha |-
  have d:=ha.tail.left;have a:=ha.tail.right;have b:=(h ts (i+1) d (Qu a OD)).2 (by rw[Of a];decide);have g:i+(Bf [40]::(Be t++[Bf [41]])).length=i+1+(Be t).length+1:=by simp;omega
  rw[g];obtain⟨N,b⟩:=b;refine⟨N+2,fun n hn => ?_⟩;obtain⟨m,rfl⟩:∃ m,n=m+1+1:=⟨n - 2,by omega⟩;show Fx ts (m+1+1) i=_
  have c:Dm ts i=5:=ha.kd;have j:Ol ts i=0:=by rw[Ol,if_pos c,ha.tx];decide
  rw[Fx,j,c,Nc,I5 ha];simp only[ne_eq,not_true_eq_false,if_false,A4];have f:Ds ts m 1 (i+1)=_:=b m OC;rw[if_neg OD,if_neg OD,if_neg OD,if_neg OD,f];simp only[A4];rw[I5 a];rfl
 ·have e:Fh t.nd.kind (Be t)=Be t:=by rw[Fh,if_neg h6]
  rw[e]at ha hx |-
  exact(h ts i ha hx).1 h6
theorem Qdo {ts:List (Ab × Nat)}:∀ (us:List Aa) (u:Aa) (acc:List Aa) (i:Nat),(∀ t ∈ u::us,Q4 t)->E4 ts i (Cm ((u::us).map Be)++[Bf [41]])->Fe (fun n=>Ji ts n acc i) (acc++u::us) (i+(Cm ((u::us).map Be)++[Bf [41]]).length)
 | [],u,acc,i,hu,ha=>by
  simp only[List.map_cons,List.map_nil,Cm,List.flatMap_nil,List.append_nil]at ha |-
  have a:=ha.right
  refine((hu u OF ts i ha.left (Qu a OD)).2 (by rw[Of a];decide)).step (fun n hn => ?_)
  rw[Ji,hn,A4,if_pos (Nw a)]
  simp;omega
 | v::us,u,acc,i,hu,ha=>by
  have e:Cm ((u::v::us).map Be)++[Bf [41]]=Be u++(Bf [44]::(Cm ((v::us).map Be)++[Bf [41]])):=by simp[Cm]
  rw[e]at ha |-
  have a:=ha.right
  have c:=Qdo us v (acc++[u]) _ (fun t ht=>hu t (List.mem_cons_of_mem _ ht)) a.tail
  refine((hu u OF ts i ha.left (Qu a OD)).2 (by rw[Of a];decide)).two c (fun n hn hn2 => ?_)
  have b:Bq ts 5 [41] (i+(Be u).length)=false:=by rw[a.st];rfl
  rw[Ji,hn,A4,b,if_neg OD,I5 a,A4,hn2]
  simp;omega
theorem Qdp {ts:List (Ab × Nat)} {us:List Aa} {i:Nat} (hu:∀ t ∈ us,Q4 t) (ha:E4 ts i (Bf [40]::(Cm (us.map Be)++[Bf [41]]))) (hne:∀ u ∈ us,∀ p r,Be u=p::r->(p.kind == 5 && p.text == [41])=false) (hne2:∀ u ∈ us,Be u≠[]):Fe (fun n=>Jj ts n i) us (i+(Bf [40]::(Cm (us.map Be)++[Bf [41]])).length):=by
 match us with
 | [] =>
  refine Fe.now (fun n => ?_);rw[Jj,I5 ha,A4,if_pos (Nw ha.tail)];rfl
 | u::us =>
  refine(Qdo us u [] (i+1) hu ha.tail).step (fun n hn => ?_);have a:Bq ts 5 [41] (i+1)=false:=by
   cases hp:Be u with
   | nil=>exact absurd hp (hne2 u OF)
   | cons p r =>
    have b:=ha.tail;simp only[List.map_cons,Cm,hp,List.cons_append]at b;rw[b.st];exact hne u OF p r hp
  rw[Jj,I5 ha,A4,a,if_neg OD,hn];simp;omega
theorem Yq {ts:List (Ab × Nat)}:∀ (us acc:List Aa) (i k:Nat),(∀ t ∈ us,Q4 t)->k=acc.length+us.length->E4 ts i ((if acc=[] then Cm (us.map Be) else us.flatMap (fun u=>Bf [44]::Be u))++[Bf [41]]) ->
  Fe (fun n=>Gy ts n k acc.length acc i) (acc++us) (i+(if acc=[] then Cm (us.map Be) else us.flatMap (fun u=>Bf [44]::Be u)).length)
 | [],acc,i,k,_,hk,_=>by
  refine Fe.now (fun n => ?_)
  rw[Gy,if_neg (by simp at hk;omega)]
  split <;> simp[Cm]
 | u::us,acc,i,k,hu,hk,ha=>by
  have l:acc++[u]≠[]:=by simp
  have f:=fun j hj=>Yq (ts:=ts) us (acc++[u]) j k (fun t ht=>hu t (List.mem_cons_of_mem _ ht)) (by simp at hk |-;omega) hj
  simp only[if_neg l]at f
  have g:acc.length < k:=by simp at hk;omega
  by_cases h0:acc=[]
  ·subst h0
   simp only[if_true]at ha |-
   have e:Cm ((u::us).map Be)++[Bf [41]]=Be u++(us.flatMap (fun u=>Bf [44]::Be u)++[Bf [41]]):=by simp[Cm,List.flatMap_map]
   rw[e]at ha
   have a:=ha.right
   have f:=f _ a
   have h:∃ x X,us.flatMap (fun u=>Bf [44]::Be u)++[Bf [41]]=Bf x::X/\x≠[40]/\Lv G4 x=0:=by
    cases us with
    | nil=>exact⟨[41],[],rfl,by decide,by decide⟩
    | cons v r=>exact⟨[44],_,rfl,by decide,by decide⟩
   obtain⟨x,X,b,c,d⟩:=h;rw[b]at a;refine((hu u OF ts i ha.left (Qu a c)).2 (by rw[Of a];exact d)).two f (fun n hn hn2 => ?_);rw[Gy,if_pos g];simp only[List.length_nil,Nat.lt_irrefl,if_false,A4];rw[hn,A4];have:=hn2;simp only[List.nil_append,List.length_cons,List.length_nil]at this;rw[List.nil_append,this];simp[Cm,List.flatMap_map];omega
  ·rw[if_neg h0]at ha |-
   have e:(u::us).flatMap (fun u=>Bf [44]::Be u)++[Bf [41]]=Bf [44]::(Be u++(us.flatMap (fun u=>Bf [44]::Be u)++[Bf [41]])):=OF;rw[e]at ha;have a:=ha.tail.right;have f:=f _ a;have h:∃ x X,us.flatMap (fun u=>Bf [44]::Be u)++[Bf [41]]=Bf x::X/\x≠[40]/\Lv G4 x=0:=by
    cases us with
    | nil=>exact⟨[41],[],rfl,by decide,by decide⟩
    | cons v r=>exact⟨[44],_,rfl,by decide,by decide⟩
   obtain⟨x,X,b,c,d⟩:=h;rw[b]at a;refine((hu u OF ts (i+1) ha.tail.left (Qu a c)).2 (by rw[Of a];exact d)).two f (fun n hn hn2 => ?_);have m:0 < acc.length:=List.length_pos_iff.2 h0;rw[Gy,if_pos g,if_pos m,I5 ha,A4,hn,A4];have:=hn2;simp only[List.length_append,List.length_cons,List.length_nil]at this;rw[this];simp;omega
theorem Qkn {ts:List (Ab × Nat)} {us:List Aa} {i:Nat} (hu:∀ t ∈ us,Q4 t) (ha:E4 ts i (Bf [40]::(Cm (us.map Be)++[Bf [41]]))):Fe (fun n=>Hn ts n us.length i) us (i+(Bf [40]::(Cm (us.map Be)++[Bf [41]])).length):=by
 refine(Yq us [] (i+1) us.length hu OF ha.tail).step (fun n hn => ?_);have:=hn;simp only[if_true,List.length_nil,List.nil_append]at this;rw[Hn,I5 ha,A4,this,A4,I5 ha.tail.right];simp[A4];omega
theorem Qpz : ∀ o:Fin 3,(E3 ((o.val+1:Nat):Int)).data.toList≠[41]:=by decide
theorem Qn7 : ∀ o:Fin 18,(C0 ((o.val+1:Nat):Int)).data.toList≠[40]:=by decide
theorem Mx {d:Ae} {n:Nat} (h:d=Ay d n):(Hm d.kind=false->d.op=0)/\(F4 d.kind=false->d.type=0)/\(d.kind≠1->d.kind≠3->d.n=0)/\(F3 d.kind=false->d.text=⟨#[]⟩)/\d.kids=(n:Int)/\(d.kind=3->d.n=if d.n=1 then 1 else 0):=by
 have b:=congrArg Ae.op h;have c:=congrArg Ae.type h;have a:=congrArg Ae.n h;have f:=congrArg Ae.text h;have g:=congrArg Ae.kids h;simp only[Ay]at b c a f g;refine⟨fun e=>by rw[e]at b;exact b,fun e=>by rw[e]at c;exact c,fun e1 e3=>by rw[if_neg e1,if_neg e3]at a;exact a,fun e=>by rw[e]at f;exact f,g,fun e3=>by rw[e3,if_neg OD,if_pos rfl]at a;exact a⟩
theorem Jd {d:Ae} {us:List Aa} (h:d=Ay d us.length) {k o t:Int} {x:List UInt8} (hk:d.kind=k) (ho:d.op=o) (ht:d.type=t) (hn:d.n=0) (hx:d.text=Aj x):Co k o t x us = .node d us:=by
 obtain⟨_,_,_,_,i,_⟩:=Mx h;obtain⟨a,b,c,e,f,g⟩:=d;simp only at hk ho ht hn hx i;subst hk ho ht hn hx i;rfl
theorem J9 {d:Ae} (h:d=Ay d 0) {k o t y:Int} {x:List UInt8} (hk:d.kind=k) (ho:d.op=o) (ht:d.type=t) (hn:d.n=y) (hx:d.text=Aj x):Lk k o t y x = .node d []:=by
 obtain⟨_,_,_,_,i,_⟩:=Mx h;obtain⟨a,b,c,e,f,g⟩:=d;simp only at hk ho ht hn hx i;subst hk ho ht hn hx i;rfl
def Qmv (t:Aa):Prop := ∃ p r,Be t=p::r/\(p.kind == 5 && p.text == [41])=false
theorem Qmj {t:Aa} (h:Qmv t) (k:Int):∃ p r,Fh k (Be t)=p::r/\(p.kind == 5 && p.text == [41])=false:=by
 unfold Fh;split
 ·exact⟨_,_,rfl,rfl⟩
 ·exact h
theorem Ni {us:List Aa} (h:D4 (us.map (fun t=>t.nd.kind))=true):∃ u,us=[u]/\Ah u.nd.kind=true:=by
 match us,h with
 | [u],h=>exact⟨u,rfl,h⟩
 | [],h=>simp[D4]at h
 | _::_::_,h=>simp[D4]at h
theorem Qf3 {k:Int} (h:Ah k=true):k=1\/k=2\/k=3\/k=4\/k=5\/k=6\/k=7\/k=8\/k=9:=by
 simp[Ah]at h;omega
theorem J4 {d:Ae} {us:List Aa} {u:Aa} (h:u ∈ us):SizeOf.sizeOf u < SizeOf.sizeOf (Aa.node d us):=by
 have:=List.sizeOf_lt_of_mem h;simp;omega
theorem Qt {ts:List (Ab × Nat)} {i j:Nat} {t:Aa} (h:Fe (fun n=>Fx ts n i) t j):(t.nd.kind≠6->Fe (fun n=>Fx ts n i) t j)/\(Js ts j=0->Fe (fun n=>Ds ts n 1 i) t j):=⟨fun _=>h,fun hm=>Qdw h hm 1 ON⟩
theorem Nh {ts:List (Ab × Nat)} {i:Nat} (h:Dm ts i≠5):Ol ts i=0:=by rw[Ol,if_neg h]
theorem Yr : ∀ (m:Nat) (t:Aa),SizeOf.sizeOf t < m->E7 t->Ah t.nd.kind=true->Q4 t/\Qmv t
 | 0,t,h,_,_=>OC
 | m+1,.node d us,hm,hg,hE=>by
  rw[E7]at hg
  obtain⟨E,l,A,hG⟩:=hg
  rw[Fg]at hG
  have ih:∀ u ∈ us,Ah u.nd.kind=true->Q4 u/\Qmv u:=fun u s c=>Yr m u (by have:=J4 (d:=d) s;omega) (hG u s) c
  have v:us.all (fun t=>Ah t.nd.kind)=true->∀ u ∈ us,Q4 u/\Qmv u:=fun h u s=>ih u s (List.all_eq_true.1 h u s)
  obtain⟨K,G,L,M,z5,z6⟩:=Mx A
  have k:Be (.node d us)=Ig d (us.map (fun t=>t.nd.kind)) (us.map Be):=by rw[Be,Nj]
  have R:(Aa.node d us).nd.kind=d.kind:=rfl
  rw[R]at hE
  rcases Qf3 hE with c|c|c|c|c|c|c|c|c
  ·have e:Be (.node d us)=[⟨3,[],d.type,d.n,(C2 d [] []).size,0⟩]:=by rw[k,Ig,if_pos c]
   have H:us=[]:=by rw[c]at l;simpa[Ac]using l
   subst H
   refine⟨fun ts i ha hx => ?_,_,_,e,rfl⟩
   rw[e]at ha |-
   refine Qt (Fe.now (fun n => ?_))
   have j:Dm ts i=3:=ha.kd
   rw[Fx,Nh (by rw[j];decide),if_neg OD,if_pos j,ha.ty,ha.nm]
   rw[J9 A c (K (by rw[c];rfl)) rfl rfl (M (by rw[c];rfl))]
   rfl
  ·have e:Be (.node d us)=[⟨4,d.text.data.toList,0,0,(C2 d [] []).size,0⟩]:=by rw[k,Ig,if_neg OC,if_pos c]
   have H:us=[]:=by rw[c]at l;simpa[Ac]using l
   subst H
   refine⟨fun ts i ha hx => ?_,_,_,e,rfl⟩
   rw[e]at ha |-
   refine Qt (Fe.now (fun n => ?_))
   have j:Dm ts i=4:=ha.kd
   rw[Fx,Nh (by rw[j];decide),if_neg OD,if_neg OC,if_pos j,show B8 ts i=d.text.data.toList from ha.tx]
   rw[J9 A c (K (by rw[c];rfl)) (G (by rw[c];rfl)) (L OC OC) (Gt _).symm]
   rfl
  ·have e:Be (.node d us)=[E6 (if d.n=1 then [116,114,117,101] else [102,97,108,115,101])]:=by rw[k,Ig,if_neg OC,if_neg OC,if_pos c]
   have H:us=[]:=by rw[c]at l;simpa[Ac]using l
   subst H
   refine⟨fun ts i ha hx => ?_,_,_,e,rfl⟩
   rw[e]at ha |-
   have j:Dm ts i=2:=ha.kd
   refine Qt ⟨2,fun n hn => ?_⟩
   obtain⟨q,rfl⟩:∃ q,n=q+1+1:=⟨n - 2,by omega⟩
   show Fx ts (q+1+1) i=_
   rw[Fx,Nh (by rw[j];decide),if_neg OD,if_neg OC,if_neg OC,if_neg OC,if_pos j,K8]
   have hy:=z6 c
   by_cases z:d.n=1
   ·rw[if_pos z]at ha
    rw[if_pos (I7 ha),J9 A c (K (by rw[c];rfl)) (G (by rw[c];rfl)) z (M (by rw[c];rfl))]
    rfl
   ·rw[if_neg z]at ha hy
    rw[if_neg (by rw[ha.st];decide),if_pos (I7 ha),J9 A c (K (by rw[c];rfl)) (G (by rw[c];rfl)) hy (M (by rw[c];rfl))]
    rfl
  ·have e:Be (.node d us)=[Kz d.text.data.toList]:=by rw[k,Ig,if_neg OC,if_neg OC,if_neg OC,if_pos c]
   have H:us=[]:=by rw[c]at l;simpa[Ac]using l
   subst H
   refine⟨fun ts i ha hx => ?_,_,_,e,rfl⟩
   rw[e]at ha hx |-
   refine Qt (Fe.now (fun n => ?_))
   have j:Dm ts i=1:=ha.kd
   have Z:Bq ts 5 [40] (i+1)=false:=hx
   rw[Fx,Nh (by rw[j];decide),if_neg OD,if_neg OC,if_neg OC,if_pos j,Z,if_neg OD,show B8 ts i=d.text.data.toList from ha.tx]
   rw[J9 A c (K (by rw[c];rfl)) (G (by rw[c];rfl)) (L OC OC) (Gt _).symm]
   rfl
  ·have f:D4 (us.map (fun t=>t.nd.kind))=true:=by rw[c]at l;simpa[Ac]using l
   obtain⟨u,rfl,s⟩:=Ni f
   obtain⟨z,I⟩:=ih u OF s
   have e:Be (.node d [u])=Bf (E3 d.op).data.toList::Fh u.nd.kind (Be u):=by rw[k,Ig,if_neg OC,if_neg OC,if_neg OC,if_neg OC,if_pos c];rfl
   have y:1<=d.op/\d.op<=3:=by rw[Au,c]at E;simpa using E
   obtain⟨o,x⟩:=Jw (n:=3) y.1 OC
   have g:=Qp0 o
   rw[<- x]at g
   have V:(E3 d.op).data.toList≠[41]:=by rw[x];exact Qpz o
   refine⟨fun ts i ha hx => ?_,_,_,e,by simpa[Bf]using V⟩
   rw[e]at ha hx |-
   have D:i+(Bf (E3 d.op).data.toList::Fh u.nd.kind (Be u)).length=i+1+(Fh u.nd.kind (Be u)).length:=by simp;omega
   rw[D]at hx |-
   refine Qt ((Wu z ha.tail hx).step (fun n hn => ?_))
   have hi:Ol ts i=o.val+1:=by rw[Ol,if_pos (show Dm ts i=5 from ha.kd),ha.tx];exact g
   rw[Fx,hi,if_pos OC,hn,A4,Jd (us:=[u]) A c x (G (by rw[c];rfl)) (L OC OC) (M (by rw[c];rfl))]
  ·have f:us.length=2/\us.all (fun t=>Ah t.nd.kind)=true:=by rw[c]at l;simpa[Ac,Function.comp_def]using l
   obtain⟨a,b,rfl⟩:∃ a b,us=[a,b]:=by
    match us,f.1 with
    | [a,b],_=>exact⟨a,b,rfl⟩
   obtain⟨a1,a2⟩:=v f.2 a OF;obtain⟨b1,b2⟩:=v f.2 b OF;have e:Be (.node d [a,b])=Fh a.nd.kind (Be a)++Bf (C0 d.op).data.toList::Fh b.nd.kind (Be b):=(by rw[k,Ig,if_neg OC,if_neg OC,if_neg OC,if_neg OC,if_neg OC,if_pos c];rfl);have y:1<=d.op/\d.op<=18:=(by rw[Au,c]at E;simpa using E);obtain⟨o,x⟩:=Jw (n:=18) y.1 OC;have g:=Qn9 o;have ac:=Qoa o;rw[<- x]at g;have V:(C0 d.op).data.toList≠[40]:=(by rw[x];exact Qn7 o);obtain⟨p,r,O,U⟩:=Qmj a2 a.nd.kind;refine⟨fun ts i ha hx=>⟨fun h6=>absurd c h6,fun hm => ?_⟩,p,_,by rw[e,O];rfl,U⟩;rw[e]at ha hx hm |-
   have I:=ha.right;have D:i+(Fh a.nd.kind (Be a)++Bf (C0 d.op).data.toList::Fh b.nd.kind (Be b)).length=i+(Fh a.nd.kind (Be a)).length+1+(Fh b.nd.kind (Be b)).length:=OH;rw[D]at hx hm |-
   have ra:=Wu a1 ha.left (Qu I V);have rb:=Qdw (Wu b1 I.tail hx) hm (P6 (o.val+1)+1) OC;obtain⟨N1,ra⟩:=ra;obtain⟨N2,rb⟩:=rb;refine⟨N1+N2+3,fun n hn => ?_⟩;obtain⟨q,rfl⟩:∃ q,n=q+1+1+1:=⟨n - 3,by omega⟩;have aa:Fx ts (q+1+1) i=_:=ra _ OC;have ab:Ds ts (q+1) (P6 (o.val+1)+1) _=_:=rb _ OC;have T:Js ts (i+(Fh a.nd.kind (Be a)).length)=o.val+1:=(by rw[Of I];exact g);show Ds ts (q+1+1+1) 1 i=_
   rw[Ds,aa,A4,Iz,T,if_neg OC,ab,A4,Ys hm _ _ _ ON];rw[Jd (us:=[a,b]) A c x (G (by rw[c];rfl)) (L OC OC) (M (by rw[c];rfl))]
  ·have f:us.all (fun t=>Ah t.nd.kind)=true:=(by rw[c]at l;have:=l;simp[Ac,Function.comp_def]at this;simpa using this.2);have s:=v f;have e:Be (.node d us)=Hj (Kz d.text.data.toList) (us.map Be):=(by rw[k,Ig,if_neg OC,if_neg OC,if_neg OC,if_neg OC,if_neg OC,if_neg OC,if_pos c]);refine⟨fun ts i ha hx => ?_,_,_,e,rfl⟩;rw[e,Hj]at ha |-
   have j:Dm ts i=1:=ha.kd;have hc:=Qdp (fun t ht=>(s t ht).1) ha.tail (fun t ht p r O=>by obtain⟨p',r',z,I⟩:=(s t ht).2;rw[z]at O;injection O with O _;subst O;exact I) (fun t ht h=>by obtain⟨p',r',z,_⟩:=(s t ht).2;rw[z]at h;cases h);have D:i+(Kz d.text.data.toList::Bf [40]::(Cm (us.map Be)++[Bf [41]])).length=i+1+(Bf [40]::(Cm (us.map Be)++[Bf [41]])).length:=OH;rw[D];refine Qt (hc.step (fun n hn => ?_));rw[Fx,Nh (by rw[j];decide),if_neg OD,if_neg OC,if_neg OC,if_pos j,if_pos (Nw ha.tail),hn,A4,show B8 ts i=d.text.data.toList from ha.tx];rw[Jd A c (K (by rw[c];rfl)) (G (by rw[c];rfl)) (L OC OC) (Gt _).symm]
  ·have f:(us.length:Int)=Bv d.op/\us.all (fun t=>Ah t.nd.kind)=true:=(by rw[c]at l;simpa[Ac,Function.comp_def]using l);have s:=v f.2;have e:Be (.node d us)=Hj (E6 (Av d.op).data.toList) (us.map Be):=(by rw[k,Ig,if_neg OC,if_neg OC,if_neg OC,if_neg OC,if_neg OC,if_neg OC,if_neg OC,if_pos c]);have y:1<=d.op/\d.op<=12:=(by rw[Au,c]at E;simpa using E);obtain⟨o,x⟩:=Jw (n:=12) y.1 OC;obtain⟨g,B,C⟩:=Qkp o;rw[<- x]at g B C;refine⟨fun ts i ha hx => ?_,_,_,e,rfl⟩;rw[e,Hj]at ha |-
   have j:Dm ts i=2:=ha.kd;have D:i+(E6 (Av d.op).data.toList::Bf [40]::(Cm (us.map Be)++[Bf [41]])).length=i+1+(Bf [40]::(Cm (us.map Be)++[Bf [41]])).length:=OH;rw[D];obtain⟨N,hb⟩:=Qkn (fun t ht=>(s t ht).1) ha.tail;refine Qt ⟨N+2,fun n hn => ?_⟩;obtain⟨q,rfl⟩:∃ q,n=q+1+1:=⟨n - 2,by omega⟩;have Q:Hn ts q us.length _=_:=hb q OC;have J:Ok ts i=o.val+1:=(by rw[Ok,if_pos j,ha.tx];exact g);have S:(Bv ((o.val+1:Nat):Int)).toNat=us.length:=(by rw[<- x,<- f.1];rfl);show Fx ts (q+1+1) i=_
   rw[Fx,Nh (by rw[j];decide),if_neg OD,if_neg OC,if_neg OC,if_neg OC,if_pos j,K8,if_neg (by rw[ha.st];simpa[E6]using B),if_neg (by rw[ha.st];simpa[E6]using C),J,if_pos OC,S,Q,A4];rw[Jd A c x (G (by rw[c];rfl)) (L OC OC) (M (by rw[c];rfl))]
  ·have f:D4 (us.map (fun t=>t.nd.kind))=true:=(by rw[c]at l;simpa[Ac]using l);obtain⟨u,rfl,s⟩:=Ni f;obtain⟨z,I⟩:=ih u OF s;have e:Be (.node d [u])=E6 (Ag d.type).data.toList::Bf [40]::(Be u++[Bf [41]]):=(by rw[k,Ig,if_neg OC,if_neg OC,if_neg OC,if_neg OC,if_neg OC,if_neg OC,if_neg OC,if_neg OC];simp[Hj,Cm]);have y:3<=d.type/\d.type<=10:=(by rw[Au,c]at E;simpa using E);obtain⟨o,x⟩:=Jw (n:=10) (o:=d.type) OC OC;obtain⟨g,F,B,C⟩:=Qd0 o;rw[<- x]at g F B C;refine⟨fun ts i ha hx => ?_,_,_,e,rfl⟩;rw[e]at ha |-
   have j:Dm ts i=2:=ha.kd;have P:=ha.tail.tail.right;have W:=(z ts _ ha.tail.tail.left (Qu P OD)).2 (by rw[Of P];decide);have D:i+(E6 (Ag d.type).data.toList::Bf [40]::(Be u++[Bf [41]])).length=i+1+1+(Be u).length+1:=OH;rw[D];obtain⟨N,W⟩:=W;refine Qt ⟨N+3,fun n hn => ?_⟩;obtain⟨q,rfl⟩:∃ q,n=q+1+1+1:=⟨n - 3,by omega⟩;have X:Ds ts q 1 _=_:=W q OC;have J:Ok ts i=0:=(by rw[Ok,if_pos j,ha.tx];exact F);have Y:Da ts i=o.val+1:=(by rw[Da,if_pos j,ha.tx];exact g);show Fx ts (q+1+1+1) i=_
   rw[Fx,Nh (by rw[j];decide),if_neg OD,if_neg OC,if_neg OC,if_neg OC,if_pos j,K8,if_neg (by rw[ha.st];simpa[E6]using B),if_neg (by rw[ha.st];simpa[E6]using C),J,if_neg OD,Y,if_neg OC,Nc,I5 ha.tail,A4,X,A4,I5 P];simp only[A4];rw[Jd (us:=[u]) A c (K (by rw[c];rfl)) x (L OC OC) (M (by rw[c];rfl))]
end Go.Proofs.YtjlaedokfbcbpaaGreatDoor
