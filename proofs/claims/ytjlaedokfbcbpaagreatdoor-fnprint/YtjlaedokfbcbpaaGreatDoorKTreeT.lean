import Derived.Test.YtjlaedokfbcbpaaGreatDoorKTreeP
import Derived.Lib.Strings
set_option maxRecDepth 100000
set_option maxHeartbeats 8000000
namespace Go.Proofs.YtjlaedokfbcbpaaGreatDoor
open Go.RowKit Proofs.Tryz
theorem Tryz.infoBranch : (prog.info? 86).map (fun i=>(i.zero,i.size,i.bytes))=some (some .nilIface,1,16):=OE
theorem Qag (fs:List C4) (i:Nat) (h:i < fs.length) (j:Nat) (hj:j < 4):(Kb fs)[i * 4+j]? = [Value.string fs[i].name,.int .i64 fs[i].result,fs[i].sp,fs[i].sb][j]?:=by
 induction fs generalizing i with
 | nil=>simp at h
 | cons t r ih =>
  cases i with
  | zero =>
   simp only[Kb,List.flatMap_cons,Nat.zero_mul,Nat.zero_add];rw[List.getElem?_append_left OH];rfl
  | succ i =>
   simp only[Kb,List.flatMap_cons];rw[List.getElem?_append_right OH];have e:(i+1) * 4+j - [Value.string t.name,.int .i64 t.result,t.sp,t.sb].length=i * 4+j:=OH;rw[e];exact ih i (by simpa using h)
theorem Qal (ps:List (ByteArray × Int)) (i:Nat) (h:i < ps.length) (j:Nat) (hj:j < 2):(Iu ps)[i * 2+j]? = [Value.string ps[i].1,.int .i64 ps[i].2][j]?:=by
 induction ps generalizing i with
 | nil=>simp at h
 | cons t r ih =>
  cases i with
  | zero =>
   simp only[Iu,List.flatMap_cons,Nat.zero_mul,Nat.zero_add];rw[List.getElem?_append_left OH];rfl
  | succ i =>
   simp only[Iu,List.flatMap_cons];rw[List.getElem?_append_right OH];have e:(i+1) * 2+j - [Value.string t.1,.int .i64 t.2].length=i * 2+j:=OH;rw[e];exact ih i (by simpa using h)
theorem Tv (w:World) (o:Obj) (a:Value) (t:TypeId) (j:Nat) (u:Value) (h:[a][j]? = some u):((w.alloc o).alloc (.cells #[a] t)).cell? (((OK (w.heap.size+1) 0):Addr).add j)=some u:=by
 have b:((OK (w.heap.size+1) 0):Addr).add j=(OK ((w.alloc o).heap.size) j):=by unfold Addr.add;split <;> simp_all
 rw[b,cell_of_row _ _ _ #[a] t (0,0) (heap_alloc_new (w.alloc o) _)];simpa using h
theorem Pm (t:TypeId) (x:Value):∀ u ∈ [Value.iface t x],u.oneCell'=true:=by
 intro u a;simp at a;subst a;rfl
theorem Wg {w wr:World} {o:Obj} {T:TypeId} (hb:Below (w.heap.size+2) ((w.alloc o).alloc (.cells #[.int .i64 0,.int .i64 0,.int .i64 0,.int .i64 0,.string ⟨#[]⟩,.int .i64 0] T)) wr) :
  (wr.cell? (OK (w.heap.size+1) 0)=some (.int .i64 0)/\wr.cell? (OK (w.heap.size+1) 1)=some (.int .i64 0)/\wr.cell? (OK (w.heap.size+1) 2)=some (.int .i64 0)/\wr.cell? (OK (w.heap.size+1) 3)=some (.int .i64 0)/\wr.cell? (OK (w.heap.size+1) 4)=some (.string ⟨#[]⟩)/\wr.cell? (OK (w.heap.size+1) 5)=some (.int .i64 0))/\(wr.frozen? (OK (w.heap.size+1) 0)=false/\wr.frozen? (OK (w.heap.size+1) 1)=false/\wr.frozen? (OK (w.heap.size+1) 2)=false/\wr.frozen? (OK (w.heap.size+1) 3)=false/\wr.frozen? (OK (w.heap.size+1) 4)=false/\wr.frozen? (OK (w.heap.size+1) 5)=false):=by
 refine⟨⟨?_, ?_, ?_, ?_, ?_, ?_⟩, ?_, ?_, ?_, ?_, ?_, ?_⟩
 ·rw[hb.cell (p:=(OK (w.heap.size+1) 0)) OF];simp[go_sem]
 ·rw[hb.cell (p:=(OK (w.heap.size+1) 1)) OF];simp[go_sem]
 ·rw[hb.cell (p:=(OK (w.heap.size+1) 2)) OF];simp[go_sem]
 ·rw[hb.cell (p:=(OK (w.heap.size+1) 3)) OF];simp[go_sem]
 ·rw[hb.cell (p:=(OK (w.heap.size+1) 4)) OF];simp[go_sem]
 ·rw[hb.cell (p:=(OK (w.heap.size+1) 5)) OF];simp[go_sem]
 ·rw[hb.frozen (p:=(OK (w.heap.size+1) 0)) OF];simp[go_sem]
 ·rw[hb.frozen (p:=(OK (w.heap.size+1) 1)) OF];simp[go_sem]
 ·rw[hb.frozen (p:=(OK (w.heap.size+1) 2)) OF];simp[go_sem]
 ·rw[hb.frozen (p:=(OK (w.heap.size+1) 3)) OF];simp[go_sem]
 ·rw[hb.frozen (p:=(OK (w.heap.size+1) 4)) OF];simp[go_sem]
 ·rw[hb.frozen (p:=(OK (w.heap.size+1) 5)) OF];simp[go_sem]
theorem T6 {B b:Nat} {w wr:World} {c0 c1 c2 c3 c4 c5:Value} {A A':Obj} (h:Below B w wr) (hb:B<=b) (hs:B<=wr.heap.size) :
  Below B w ((((((((wr.setCell (OK b 0) c0).setCell (OK b 1) c1).setCell (OK b 2) c2).setCell (OK b 3) c3).setCell (OK b 4) c4).setCell (OK b 5) c5).alloc A).alloc A') :=
 (((((((h.setCell (p:=(OK b 0)) hb _).setCell (p:=(OK b 1)) hb _).setCell (p:=(OK b 2)) hb _).setCell (p:=(OK b 3)) hb _).setCell (p:=(OK b 4)) hb _).setCell (p:=(OK b 5)) hb _).alloc (by simpa using hs) _).alloc OH _
theorem Xs {b B e size n:Nat} {wr:World} {v:Value} {xs:List Value} {c0 c1 c2 c3 c4 c5:Value} {A A':Obj} (h:wr.ownsRow B e size v n xs) (hb:b < B) :
  ((((((((wr.setCell (OK b 0) c0).setCell (OK b 1) c1).setCell (OK b 2) c2).setCell (OK b 3) c3).setCell (OK b 4) c4).setCell (OK b 5) c5).alloc A).alloc A').ownsRow B e size v n xs :=
 ((ownsRow_setCell_below (ownsRow_setCell_below (ownsRow_setCell_below (ownsRow_setCell_below (ownsRow_setCell_below (ownsRow_setCell_below h (a:=(OK b 0)) hb _) (a:=(OK b 1)) hb _) (a:=(OK b 2)) hb _) (a:=(OK b 3)) hb _) (a:=(OK b 4)) hb _) (a:=(OK b 5)) hb _).alloc _).alloc _
theorem DdTreeTx111 {P:Prop} (h:P:=by
 have ab:=f.size
 simp only[World.size_alloc]at ab
 go_roundw
 case rel=>exact⟨i+1,by omega,by go_num,by rw[V.out];exact r,A,by omega⟩
 case measure=>simp[intOf];omega
 ):P:=h
theorem parts_24 (o t y:Int) (x:ByteArray) (k:Int) (a:Option Addr) (n c:Nat) (fs:List C4) (P:Nat->Prop) (w:World) (hP:∀ g,P g->g < w.heap.size) (hf:fs.length=n) (hl:n<=100000) (hS:Bk P w (.slice a n c) n (Kb fs)) :
  Calls prog 223 #[.agg #[.slice a n c]] w fun e w'=>Cl P w ⟨24,o,t,y,x,k⟩ (fs.map F8) e w':=by
 obtain⟨W,F,G,H,I⟩:=info_parts Tryz.infoBranch;have HV:Hid (Af (Ay ⟨24,o,t,y,x,k⟩ (fs.map F8).length) = .agg #[.int .i64 24,.int .i64 0,.int .i64 0,.int .i64 0,.string ⟨#[]⟩,.int .i64 (n:Int)]):=by rw[Hid,List.length_map,hf];rfl
 obtain⟨a',c',hv,q⟩:=hS;cases hv
 have l:∀ i (hi:i < n),∃ g,a=some (OK g 0)/\g < w.heap.size/\∀ j,j < 4->w.cell? (OK g (i * 4+j))=[Value.string (fs[i]'OC).name,.int .i64 (fs[i]'OC).result,(fs[i]'OC).sp,(fs[i]'OC).sb][j]?:=by
  intro i hi;have h0:=Qag fs i OC 0 OC;obtain⟨g,M,hg,_⟩:=q (i * 4+0) _ h0;refine⟨g,M,hP g hg,fun j hj => ?_⟩;have D:=Qag fs i OC j hj;match j,hj with
  | 0,_=>obtain⟨Z,d,_,s⟩:=q _ _ D;rw[M]at d;cases d;exact s
  | 1,_=>obtain⟨Z,d,_,s⟩:=q _ _ D;rw[M]at d;cases d;exact s
  | 2,_=>obtain⟨Z,d,_,s⟩:=q _ _ D;rw[M]at d;cases d;exact s
  | 3,_=>obtain⟨Z,d,_,s⟩:=q _ _ D;rw[M]at d;cases d;exact s
 clear q;go_enter func223,ntmps223;go_wp2_with (at_make;(refine wpList_make_own _ rfl _ _ 49 rfl (w.heap.size+2) 86 W .nilIface 1 underlying49 F G H .i64 .i64 _ n rfl rfl rfl (by rw[I];omega) OI OB ?_;intro U E z;have C:Below (w.heap.size+2) ((w.alloc (.cells #[.slice a n c] 40)).alloc (.cells #[.int .i64 0,.int .i64 0,.int .i64 0,.int .i64 0,.string ⟨#[]⟩,.int .i64 0] 62)) U:=Below.grown (OO _) z OB (fun k h=>by cases h);have r0:U.cell? (OK w.heap.size 0)=some (.slice a n c):=(by rw[C.cell (p:=(OK w.heap.size 0)) OF];simp[go_sem])));have K:w.heap.size+2<=U.heap.size:=by have:=C.size;simp only[World.size_alloc]at this;omega
 go_loopw [4,14] (fun vk tv wr => ∃ i:Nat,i<=n/\tv = .int .i64 (i:Int)/\wr.ownsRow (w.heap.size+2) 86 1 vk i ((fs.take i).map F8)/\Below (w.heap.size+2) ((w.alloc (.cells #[.slice a n c] 40)).alloc (.cells #[.int .i64 0,.int .i64 0,.int .i64 0,.int .i64 0,.string ⟨#[]⟩,.int .i64 0] 62)) wr/\w.heap.size+2<=wr.heap.size) (fun _ tv _=>n - (intOf tv).toNat);case atStart=>exact⟨0,by omega,rfl,by simpa using E,C,K⟩
 case round =>
  obtain⟨i,hi,rfl,b,m,J⟩:=hrel;by_cases hlt:i < n
  ·obtain⟨g,rfl,R,s⟩:=l i hlt;have T:i < fs.length:=OC;have V:Hid ((fs.take (i+1)).map F8=(fs.take i).map F8++[F8 fs[i]]):=(by rw[Hid,<- List.take_append_getElem T,List.map_append];rfl);have N:∀ j,wr.cell? (OK g j)=w.cell? (OK g j):=fun j=>by
    rw[m.cell (p:=(OK g j)) OH,World.cell?_alloc_past _ _ _ OB,World.cell?_alloc_past _ _ _ R]
   have X:=(N (i * 4+0)).trans (s 0 OC);have Y:=(N (i * 4+1)).trans (s 1 OC);have c2:=(N (i * 4+2)).trans (s 2 OC);have c3:=(N (i * 4+3)).trans (s 3 OC);simp only[Nat.add_zero,List.getElem?_cons_zero,List.getElem?_cons_succ]at X Y c2 c3;clear l s N;rw[show F8 fs[i] = .iface 53 (.agg #[.string fs[i].name,.int .i64 fs[i].result,fs[i].sp,fs[i].sb]) from rfl]at V;generalize fs[i]=fi at *;obtain⟨nm,rr,a1,n1,d1,a2,n2,d2⟩:=fi;simp only[C4.sp,C4.sb]at X Y c2 c3 V;go_wp2_with (at_builtin;(refine wpList_append_own _ rfl _ _ 49 rfl (w.heap.size+2) 86 W .nilIface 1 16 underlying49 F G H I rfl OD _ _ _ rfl ((b.alloc _).alloc _) (OK (wr.heap.size+1) 0) 1 1 [.iface 53 (.agg #[.string nm,.int .i64 rr,.slice a1 n1 d1,.slice a2 n2 d2])] rfl rfl (Tv _ _ _ _) (Pm _ _) OI OC OB ?_;intro v' L r f _));have A:Below (w.heap.size+2) ((w.alloc (.cells #[.slice (some (OK g 0)) n c] 40)).alloc (.cells #[.int .i64 0,.int .i64 0,.int .i64 0,.int .i64 0,.string ⟨#[]⟩,.int .i64 0] 62)) L:=Below.grown ((m.alloc J _).alloc OB _) f OB (fun j hj=>(b.lt _ hj).1);exact DdTreeTx111
  ·have S:i=n:=OC;subst S;have hT:fs.take i=fs:=List.take_of_length_le OC;rw[hT]at b;obtain⟨ak,ck,rfl⟩:=G1 b;obtain⟨⟨z0,z1,z2,z3,z4,z5⟩,y0,y1,y2,y3,y4,y5⟩:=Wg m;have Q:Below w.heap.size w wr:=((OP w _).alloc OF _).trans (m.mono OC);have ac:w.heap.size+1 < wr.heap.size:=OC;have O:w.heap.size < wr.heap.size:=OC;have ad:w.heap.size+1 < wr.heap.size+1:=OC;clear l hT;go_wp2_with (go_at_call 224;refine(above_any _ _ _ _ _ _ _ _ _ _).mono ?_;rintro e w' ⟨rfl,rfl⟩);refine bodyPost_ret (v:=.tuple #[.agg #[.int .i64 24,.int .i64 0,.int .i64 0,.int .i64 0,.string ⟨#[]⟩,.int .i64 (i:Int)],.slice ak i ck]) (by simp[results,results223,go_sem,z0,z1,z2,z3,z4,z5,ac,O]) rfl ⟨_,by rw[HV.out], ?_, ?_⟩
   ·exact T6 Q OC OC
   ·rw[List.length_map,hf];refine Bk.below (Ma (B:=w.heap.size+2) (e:=86) (size:=1) ?_) (fun g h => .inr ⟨by omega,h.2⟩) (fun g _=>rfl);exact Xs b OC
theorem parts_23 (o t y:Int) (x:ByteArray) (k:Int) (a:Option Addr) (n c:Nat) (sa:Option Addr) (sn sc:Nat) (ps:List (ByteArray × Int)) (P:Nat->Prop) (w:World) (hP:∀ g,P g->g < w.heap.size) (hf:ps.length=n) (hl:n<=100000) (hS:Bk P w (.slice a n c) n (Iu ps)) :
  Calls prog 227 #[.agg #[.string x,.int .i64 t,.slice a n c,.slice sa sn sc]] w fun e w'=>Cl P w ⟨23,o,t,y,x,k⟩ (ps.map Gm++[Dv (.slice sa sn sc)]) e w':=by
 obtain⟨W,F,G,H,I⟩:=info_parts Tryz.infoBranch;have HV:Hid (Af (Ay ⟨23,o,t,y,x,k⟩ (ps.map Gm++[Dv (.slice sa sn sc)]).length) = .agg #[.int .i64 23,.int .i64 0,.int .i64 t,.int .i64 0,.string x,.int .i64 ((n:Int)+1)]):=by rw[Hid,List.length_append,List.length_map,hf];rfl
 obtain⟨a',c',hv,q⟩:=hS;cases hv
 have l:∀ i (hi:i < n),∃ g,a=some (OK g 0)/\g < w.heap.size/\∀ j,j < 2->w.cell? (OK g (i * 2+j))=[Value.string (ps[i]'OC).1,.int .i64 (ps[i]'OC).2][j]?:=by
  intro i hi;have h0:=Qal ps i OC 0 OC;obtain⟨g,M,hg,_⟩:=q (i * 2+0) _ h0;refine⟨g,M,hP g hg,fun j hj => ?_⟩;have D:=Qal ps i OC j hj;match j,hj with
  | 0,_=>obtain⟨Z,d,_,s⟩:=q _ _ D;rw[M]at d;cases d;exact s
  | 1,_=>obtain⟨Z,d,_,s⟩:=q _ _ D;rw[M]at d;cases d;exact s
 clear q;go_enter func227,ntmps227;go_wp2_with (at_make;(refine wpList_make_own _ rfl _ _ 49 rfl (w.heap.size+2) 86 W .nilIface 1 underlying49 F G H .i64 .i64 _ (n+1) rfl rfl OC (by rw[I];omega) OI OB ?_;intro U E z;have C:Below (w.heap.size+2) ((w.alloc (.cells #[.string x,.int .i64 t,.slice a n c,.slice sa sn sc] 53)).alloc (.cells #[.int .i64 0,.int .i64 0,.int .i64 0,.int .i64 0,.string ⟨#[]⟩,.int .i64 0] 62)) U:=Below.grown (OO _) z OB (fun k h=>by cases h);have r2:U.cell? (OK w.heap.size 2)=some (.slice a n c):=(by rw[C.cell (p:=(OK w.heap.size 2)) OF];simp[go_sem])));have K:w.heap.size+2<=U.heap.size:=by have:=C.size;simp only[World.size_alloc]at this;omega
 go_loopw [4,15] (fun vk tv wr => ∃ i:Nat,i<=n/\tv = .int .i64 (i:Int)/\wr.ownsRow (w.heap.size+2) 86 1 vk i ((ps.take i).map Gm)/\Below (w.heap.size+2) ((w.alloc (.cells #[.string x,.int .i64 t,.slice a n c,.slice sa sn sc] 53)).alloc (.cells #[.int .i64 0,.int .i64 0,.int .i64 0,.int .i64 0,.string ⟨#[]⟩,.int .i64 0] 62)) wr/\w.heap.size+2<=wr.heap.size) (fun _ tv _=>n - (intOf tv).toNat);case atStart=>exact⟨0,by omega,rfl,by simpa using E,C,K⟩
 case round =>
  obtain⟨i,hi,rfl,b,m,J⟩:=hrel;by_cases hlt:i < n
  ·obtain⟨g,rfl,R,s⟩:=l i hlt;have T:i < ps.length:=OC;have V:Hid ((ps.take (i+1)).map Gm=(ps.take i).map Gm++[Gm ps[i]]):=(by rw[Hid,<- List.take_append_getElem T,List.map_append];rfl);have N:∀ j,wr.cell? (OK g j)=w.cell? (OK g j):=fun j=>by
    rw[m.cell (p:=(OK g j)) OH,World.cell?_alloc_past _ _ _ OB,World.cell?_alloc_past _ _ _ R]
   have X:=(N (i * 2+0)).trans (s 0 OC);have Y:=(N (i * 2+1)).trans (s 1 OC);simp only[Nat.add_zero,List.getElem?_cons_zero,List.getElem?_cons_succ]at X Y;clear l s N;rw[show Gm ps[i] = .iface 94 (.agg #[.string ps[i].1,.int .i64 ps[i].2]) from rfl]at V;generalize ps[i]=pi at *;obtain⟨nm,pt⟩:=pi;simp only at X Y V;go_wp2_with (at_builtin;(refine wpList_append_own _ rfl _ _ 49 rfl (w.heap.size+2) 86 W .nilIface 1 16 underlying49 F G H I rfl OD _ _ _ rfl ((b.alloc _).alloc _) (OK (wr.heap.size+1) 0) 1 1 [.iface 94 (.agg #[.string nm,.int .i64 pt])] rfl rfl (Tv _ _ _ _) (Pm _ _) OI OC OB ?_;intro v' L r f _));have A:Below (w.heap.size+2) ((w.alloc (.cells #[.string x,.int .i64 t,.slice (some (OK g 0)) n c,.slice sa sn sc] 53)).alloc (.cells #[.int .i64 0,.int .i64 0,.int .i64 0,.int .i64 0,.string ⟨#[]⟩,.int .i64 0] 62)) L:=Below.grown ((m.alloc J _).alloc OB _) f OB (fun j hj=>(b.lt _ hj).1);exact DdTreeTx111
  ·have S:i=n:=OC;subst S;have hT:ps.take i=ps:=List.take_of_length_le OC;rw[hT]at b;obtain⟨ak,ck,rfl⟩:=G1 b;obtain⟨⟨z0,z1,z2,z3,z4,z5⟩,y0,y1,y2,y3,y4,y5⟩:=Wg m;have Q:Below w.heap.size w wr:=((OP w _).alloc OF _).trans (m.mono OC);have x0:wr.cell? (OK w.heap.size 0)=some (.string x):=(by rw[m.cell (p:=(OK w.heap.size 0)) OF];simp[go_sem]);have x1:wr.cell? (OK w.heap.size 1)=some (.int .i64 t):=(by rw[m.cell (p:=(OK w.heap.size 1)) OF];simp[go_sem]);have x3:wr.cell? (OK w.heap.size 3)=some (.slice sa sn sc):=(by rw[m.cell (p:=(OK w.heap.size 3)) OF];simp[go_sem]);have ac:w.heap.size+1 < wr.heap.size:=OC;have O:w.heap.size < wr.heap.size:=OC;have ad:w.heap.size+1 < wr.heap.size+1:=OC;clear l hT;go_wp2_with fail;go_region_law (first
    | (refine Iy rfl (.tmp 30) (.tmp 34) 49 rfl (w.heap.size+2) 86 W .nilIface 1 16 underlying49 F G H I rfl OD (.slice ak i ck) i (ps.map Gm) rfl (by with_reducible first|exact(b.alloc _).drew|exact World.ownsRow.alloc b.drew _) (OK wr.heap.size 0) 1 1 [.iface 51 (.agg #[.slice sa sn sc])] rfl rfl (by intro j u hu;exact cell_one_new _ _ _ j u hu) (Pm _ _) OI OC OH ?_;intro v' L r f;obtain⟨a',c',ag⟩:=G1 r;subst ag;have A:Below (w.heap.size+2) wr L:=Below.grown (by with_reducible first|exact((OO wr).alloc J _).drew|exact(OO wr).drew.alloc J _) f OH (fun j hj=>(b.lt _ hj).1);obtain⟨⟨p0,p1,p2,p3,p4,p5⟩,q0,q1,q2,q3,q4,q5⟩:=Wg (m.trans A);have v0:L.cell? (OK w.heap.size 0)=some (.string x):=(by rw[A.cell (p:=(OK w.heap.size 0)) OF];exact x0);have v1:L.cell? (OK w.heap.size 1)=some (.int .i64 t):=(by rw[A.cell (p:=(OK w.heap.size 1)) OF];exact x1);have ab:=A.size;have af:w.heap.size+1 < L.heap.size:=OC;have ae:w.heap.size < L.heap.size:=OC;have ah:w.heap.size+1 < L.heap.size+1:=OC)
    | (go_simp;go_at_call 224;refine(above_any _ _ _ _ _ _ _ _ _ _).mono ?_;rintro e w' ⟨rfl,rfl⟩))
   all_goals
    go_wp2;have aa:Below w.heap.size w L:=Q.trans (A.mono OC);refine bodyPost_ret (v:=.tuple #[.agg #[.int .i64 23,.int .i64 0,.int .i64 t,.int .i64 0,.string x,.int .i64 ((i:Int)+1)],.slice a' (i+1) c']) (by simp[results,results227,go_sem,p0,p1,p2,p3,p4,p5,af,ae]) rfl ⟨_,by rw[HV.out], ?_, ?_⟩
    ·exact T6 aa OC OC
    ·rw[List.length_append,List.length_map,hf];exact Bk.below (Ma (Xs r OC)) (fun g h => .inr ⟨by omega,h.2⟩) (fun g _=>rfl)
def H4 (a b:Ae):Bool:=(a.kind == b.kind) && (a.op == b.op) && (a.type == b.type) && (a.n == b.n) && (a.text.toList == b.text.toList) && (a.kids == b.kids)
theorem Hu {us:List Value} {ks:List Int} (hk:Aq us ks) (i:Nat) (S:Value) (h:us[i]? = some (Dv S)):∃ a n c,S = .slice a n c:=by
 obtain⟨k,y,g,l,_,d,o⟩:=B7 hk i _ h;unfold Dv at d;injection d with h4 h5;have b:k=21:=by
  by_cases h6:k=21
  ·exact h6
  ·exact absurd h4.symm (Hl g l (j:=21) OC OC h6)
 subst h5;obtain⟨a,n,c,m⟩:=o.1 b;injection m with h8;have f:=congrArg (fun z:Array Value=>z[0]?) h8;simp at f;exact⟨a,n,c,f⟩
theorem Qa1 {us:List Value} {ks:List Int} (hk:Aq us ks) (i:Nat) (nm:ByteArray) (S:Value) (h:us[i]? = some (.iface 183 (.agg #[.string nm,S]))):∃ a n c,S = .slice a n c:=by
 obtain⟨k,y,f,g,_,l,o⟩:=B7 hk i _ h;injection l with h4 h5;have b:k=7:=by
  by_cases h6:k=7
  ·exact h6
  ·exact absurd h4.symm (Hl f g (j:=7) OC OC h6)
 subst h5;obtain⟨p,a,n,c,m⟩:=o.2.1 b;injection m with h8;have d:=congrArg (fun z:Array Value=>z[1]?) h8;simp at d;exact⟨a,n,c,d⟩
theorem Ep {us:List Value} {ks:List Int} (hk:Aq us ks) (i:Nat) (u:Value) (h:us[i]? = some u):∃ t y,u = .iface t y:=by
 obtain⟨k,y,_,_,_,a,_⟩:=B7 hk i u h;exact⟨_,_,a⟩
theorem Ff {T:TypeId} {f:FuncId} {Q:FuncId->Prop} (h:Q f) (h1:∀ (v:Value) (w:World),(method 401 T v "loop.example/kilnmill/impl.parts").run prog w = .ok (f,v) w:=by intro v w;kernel_rfl) (h2:∀ (x:Array Value) (w:World),(callFunc f x).run prog w = .ok (.enter f x) w:=by intro x w;kernel_rfl):∃ f,(∀ (v:Value) (w:World),(method 401 T v "loop.example/kilnmill/impl.parts").run prog w = .ok (f,v) w)/\(∀ (x:Array Value) (w:World),(callFunc f x).run prog w = .ok (.enter f x) w)/\Q f:=⟨f,h1,h2,h⟩
theorem Zg (d:Ae) (P:Nat->Prop) (us:List Value) (ks:List Int) (X:Value) (w:World) (hP:∀ g,P g->g < w.heap.size) (hk:Aq us ks) (q:23<=d.kind->us.length<=100000) (h1:1<=d.kind) (h2:d.kind<=24) (hI:Az P w d us X):∃ f,(∀ (v:Value) (w:World),(method 401 (A9 d.kind) v "loop.example/kilnmill/impl.parts").run prog w = .ok (f,v) w)/\(∀ (x:Array Value) (w:World),(callFunc f x).run prog w = .ok (.enter f x) w)/\Calls prog f #[X] w fun e w'=>Cl P w d us e w':=by
 obtain⟨c,o,t,y,x,k⟩:=d
 simp only at h1 h2 q |-
 unfold Az at hI
 rcases N4 c h1 h2 with rfl|rfl|rfl|rfl|rfl|rfl|rfl|rfl|rfl|rfl|rfl|rfl|rfl|rfl|rfl|rfl|rfl|rfl|rfl|rfl|rfl|rfl|rfl|rfl
 all_goals simp (decide:=true) only[if_true,if_false]at hI
 ·obtain⟨rfl,rfl⟩:=hI
  exact Ff (parts_1 o t y x k P w)
 ·obtain⟨rfl,rfl⟩:=hI
  exact Ff (parts_2 o t y x k P w)
 ·obtain⟨rfl,rfl⟩:=hI
  by_cases hy:y=1
  ·have:(y == 1)=true:=by simpa using hy
   simp only[this]
   exact Ff (parts_3t o t y x k hy P w)
  ·have:(y == 1)=false:=by simpa using hy
   simp only[this]
   exact Ff (parts_3f o t y x k hy P w)
 ·obtain⟨rfl,rfl⟩:=hI
  exact Ff (parts_4 o t y x k P w)
 ·obtain⟨u,rfl,rfl⟩:=hI
  obtain⟨b,h,rfl⟩:=Ep hk 0 u rfl
  exact Ff (parts_5 o t y x k b h P w)
 ·obtain⟨u,v,rfl,rfl⟩:=hI
  obtain⟨b,h,rfl⟩:=Ep hk 0 u rfl
  obtain⟨r,s,rfl⟩:=Ep hk 1 v rfl
  exact Ff (parts_6 o t y x k b h r s P w)
 ·obtain⟨S,i,rfl⟩:=hI
  obtain⟨a,c,l,j⟩:=i
  subst l
  exact Ff (parts_7 o t y x k a us.length c us P w hP rfl ⟨a,c,rfl,j⟩)
 ·obtain⟨S,i,rfl⟩:=hI
  obtain⟨a,c,l,j⟩:=i
  subst l
  exact Ff (parts_8 o t y x k a us.length c us P w hP rfl ⟨a,c,rfl,j⟩)
 ·obtain⟨u,rfl,rfl⟩:=hI
  obtain⟨b,h,rfl⟩:=Ep hk 0 u rfl
  exact Ff (parts_9 o t y x k b h P w)
 ·obtain⟨u,rfl,rfl⟩:=hI
  obtain⟨b,h,rfl⟩:=Ep hk 0 u rfl
  exact Ff (parts_10 o t y x k b h P w)
 ·obtain⟨u,rfl,rfl⟩:=hI
  obtain⟨b,h,rfl⟩:=Ep hk 0 u rfl
  exact Ff (parts_11 o t y x k b h P w)
 ·rcases hI with⟨u,S,rfl,rfl⟩|⟨u,S,r,s,rfl,rfl⟩
  ·obtain⟨b,h,rfl⟩:=Ep hk 0 u rfl
   obtain⟨m,p,n,rfl⟩:=Hu hk 1 S rfl
   exact Ff (parts_12n o t y x k b h m p n P w)
  ·obtain⟨b,h,rfl⟩:=Ep hk 0 u rfl
   obtain⟨m,p,n,rfl⟩:=Hu hk 1 S rfl
   exact Ff (parts_12 o t y x k b h m p n r s P w)
 ·obtain⟨u,S,rfl,rfl⟩:=hI
  obtain⟨b,h,rfl⟩:=Ep hk 0 u rfl
  obtain⟨m,p,n,rfl⟩:=Hu hk 1 S rfl
  exact Ff (parts_13 o t y x k b h m p n P w)
 ·obtain⟨rfl,rfl⟩:=hI
  exact Ff (parts_14 o t y x k P w)
 ·obtain⟨rfl,rfl⟩:=hI
  exact Ff (parts_15 o t y x k P w)
 ·rcases hI with⟨rfl,rfl⟩|⟨b,h,rfl,rfl⟩
  ·exact Ff (parts_16n o t y x k P w)
  ·exact Ff (parts_16 o t y x k b h P w)
 ·obtain⟨u,rfl,rfl⟩:=hI
  obtain⟨b,h,rfl⟩:=Ep hk 0 u rfl
  exact Ff (parts_17 o t y x k b h P w)
 ·obtain⟨u,v,rfl,rfl⟩:=hI
  obtain⟨b,h,rfl⟩:=Ep hk 0 u rfl
  obtain⟨r,s,rfl⟩:=Ep hk 1 v rfl
  exact Ff (parts_18 o t y x k b h r s P w)
 ·obtain⟨u,rfl,rfl⟩:=hI
  obtain⟨b,h,rfl⟩:=Ep hk 0 u rfl
  exact Ff (parts_19 o t y x k b h P w)
 ·obtain⟨nm,S,rfl,rfl⟩:=hI
  obtain⟨m,p,n,rfl⟩:=Qa1 hk 0 nm S rfl
  exact Ff (parts_20 o t y x k nm m p n P w)
 ·obtain⟨S,i,rfl⟩:=hI
  obtain⟨a,c,l,j⟩:=i
  subst l
  exact Ff (parts_21 o t y x k a us.length c us P w hP rfl ⟨a,c,rfl,j⟩)
 ·obtain⟨rfl,rfl⟩:=hI
  exact Ff (parts_22 o t y x k P w)
 ·have q:=q OD
  obtain⟨z,D,B,rfl,i,rfl⟩:=hI
  obtain⟨m,p,n,rfl⟩:=Hu hk z.length B OF
  obtain⟨a,c,l,j⟩:=i
  subst l
  exact Ff (parts_23 o t y x k a z.length c m p n z P w hP rfl (by simp at q;omega) ⟨a,c,rfl,j⟩)
 ·have q:=q OD
  obtain⟨A,C,rfl,i,rfl⟩:=hI
  obtain⟨a,c,l,j⟩:=i
  subst l
  exact Ff (parts_24 o t y x k a A.length c A P w hP rfl (by simpa using q) ⟨a,c,rfl,j⟩)
mutual
def Ba (P:Nat->Prop) (w:World):Aa->Value->Prop
 | .node d ks,v => ∃ us,H7 P w d us v/\Aq us (ks.map (fun t=>t.nd.kind))/\(23<=d.kind->us.length<=100000)/\us.length<=100000/\An P w ks us
def An (P:Nat->Prop) (w:World):List Aa->List Value->Prop
 | [],us=>us=[]
 | t::r,us => ∃ u us',us=u::us'/\Ba P w t u/\An P w r us'
end
theorem An.len {P:Nat->Prop} {w:World}:∀ (ts:List Aa) (us:List Value),An P w ts us->us.length=ts.length
 | [],us,h=>by rw[An]at h;rw[h];rfl
 | t::r,us,h=>by
  rw[An]at h
  obtain⟨u,a,rfl,_,b⟩:=h
  have:=An.len r a b
  simp[this]
theorem An.at {P:Nat->Prop} {w:World}:∀ (ts:List Aa) (us:List Value),An P w ts us->∀ i (h:i < ts.length),∃ u,us[i]? = some u/\Ba P w ts[i] u
 | [],us,h,i,hi=>by simp at hi
 | t::r,us,h,i,hi=>by
  rw[An]at h
  obtain⟨u,a,rfl,b,c⟩:=h
  cases i with
  | zero=>exact⟨u,rfl,b⟩
  | succ i=>exact An.at r a c i (by simpa using hi)
theorem I8 : ∀ (ts:List Aa) (i:Nat) (h:i < ts.length),ts[i].high+1<=Aa.highs ts
 | t::r,0,_=>by rw[Aa.highs];simp only[List.getElem_cons_zero];omega
 | t::r,i+1,h=>by
  rw[Aa.highs]
  have:=I8 r i (by simpa using h)
  simp only[List.getElem_cons_succ]
  omega
theorem Pl : ∀ (a b:List Aa),Aa.highs (a++b)=max (Aa.highs a) (Aa.highs b)
 | [],b=>by simp[Aa.highs]
 | t::r,b=>by
  rw[List.cons_append,Aa.highs,Aa.highs,Pl r b];omega
mutual
theorem Ba.below {P Q:Nat->Prop} {w w':World} (hQ:∀ g,P g->Q g) (hc:∀ g,P g->w'.heap[g]? = w.heap[g]?):∀ (t:Aa) (v:Value),Ba P w t v->Ba Q w' t v
 | .node d ks,v,h=>by
  rw[Ba]at h |-
  obtain⟨us,a,b,c,f,i⟩:=h
  exact⟨us,a.below hQ hc,b,c,f,An.below hQ hc ks us i⟩
theorem An.below {P Q:Nat->Prop} {w w':World} (hQ:∀ g,P g->Q g) (hc:∀ g,P g->w'.heap[g]? = w.heap[g]?):∀ (ts:List Aa) (us:List Value),An P w ts us->An Q w' ts us
 | [],us,h=>by rw[An]at h |-;exact h
 | t::r,us,h=>by
  rw[An]at h |-
  obtain⟨u,a,b,c,d⟩:=h
  exact⟨u,a,b,Ba.below hQ hc t u c,An.below hQ hc r a d⟩
end
def Lo (n:Nat):Prop := ∀ (t:Aa) (v:Value) (w:World) (P:Nat->Prop),t.high < n->(∀ g,P g->g < w.heap.size)->Ba P w t v ->
 Calls prog 35 #[v] w fun e w'=>e = .returned (.int .i64 ((t.high:Int)+1))/\Below w.heap.size w w'
theorem Qa4 (ts:List Aa) (i:Nat) (h:i < ts.length):Aa.highs (ts.take (i+1))=max (Aa.highs (ts.take i)) (ts[i].high+1):=by
 rw[<- List.take_append_getElem h,Pl];simp[Aa.highs]
theorem Qi9 (p q:Nat):Value.int .i64 (if (p:Int) < (q:Int)+1 then (q:Int)+1 else (p:Int)) = .int .i64 ((max p (q+1):Nat):Int):=by
 congr 1;split <;> omega
theorem Qa5 (ts:List Aa) (i:Nat):Aa.highs (ts.take i)<=Aa.highs ts:=by
 have h:=Pl (ts.take i) (ts.drop i);rw[List.take_append_drop]at h;omega
theorem levels_gen (n:Nat) (hn:n<=200000) (ih:Lo n) (T:TypeId) (f:FuncId) (hm:∀ (v:Value) (w:World),(method 401 T v "loop.example/kilnmill/impl.parts").run prog w = .ok (f,v) w) (hcf:∀ (x:Array Value) (w:World),(callFunc f x).run prog w = .ok (.enter f x) w) (d:Ae) (P:Nat->Prop) (ts:List Aa) (us:List Value) (X:Value) (w:World) (hP:∀ g,P g->g < w.heap.size) (hl2:us.length<=100000) (hpt:Calls prog f #[X] w fun e w'=>Cl P w d us e w') (hR:An P w ts us) (hh:Aa.highs ts<=n) :
  Calls prog 35 #[.iface T X] w fun e w'=>e = .returned (.int .i64 ((Aa.highs ts:Int)+1))/\Below w.heap.size w w':=by
 have y:=An.len ts us hR
 obtain⟨m,B⟩:∃ m,Hid (us.length=m):=⟨_,(rfl:us.length=_)⟩
 have ab:m<=100000:=by rw[<- B.out];exact hl2
 have ac:ts.length=m:=by rw[<- y];exact B.out
 have l:=An.at ts us hR
 clear hl2 y hR
 go_enter func35,ntmps35
 go_wp2_with (refine hpt.mono ?_;rintro e c ⟨S,rfl,z,M⟩;rw[B.out]at M;obtain⟨U,sc,rfl,r⟩:=M;generalize Ay _ us.length=D;rcases D with⟨Y,o',t',y',x',k'⟩;simp only[Af])
 have K:=z.size
 have aa:Below w.heap.size w (c.alloc (.cells #[.int .i64 Y,.int .i64 o',.int .i64 t',.int .i64 y',.string x',.int .i64 k'] 62)):=z.alloc K _
 have b:∀ (W:World),Below c.heap.size c W->∀ (j:Nat) u,us[j]? = some u->∃ g,U=some (OK g 0)/\W.cell? (OK g j)=some u:=fun W hW j u hj=>by
  obtain⟨g,Z,s,hq⟩:=r j u hj
  have G:g < c.heap.size:=by
   rcases s with s|s
   ·have:=hP g s;omega
   ·exact s.2
  exact⟨g,Z,by rw[hW.cell (p:=(OK g j)) G];exact hq⟩
 clear r hpt hm hcf
 have A:Hid (∀ (W:World),Below c.heap.size c W->∀ (j:Nat) u,us[j]? = some u->∃ g,U=some (OK g 0)/\W.cell? (OK g j)=some u):=b
 have C:Hid (∀ (i:Nat) (h:i < ts.length),∃ u,us[i]? = some u/\Ba P w ts[i] u):=l
 clear b l
 go_loopw [5,15] (fun tm tv wr => ∃ i:Nat,i<=m/\tv = .int .i64 (i:Int)/\tm = .int .i64 (Aa.highs (ts.take i):Int)/\Below c.heap.size c wr) (fun _ tv _=>m - (intOf tv).toNat)
 case atStart=>exact⟨0,by omega,rfl,rfl,OP c _⟩
 case round =>
  obtain⟨i,hi,rfl,rfl,a⟩:=hrel
  have L:=a.size
  by_cases hlt:i < m
  ·have k:i < ts.length:=OC
   obtain⟨u,R,Q⟩:=C.out i k
   obtain⟨g,rfl,hc⟩:=A.out wr a i u R
   have o:Below w.heap.size w wr:=z.trans (a.mono K)
   have t:Ba P wr ts[i] u:=Ba.below (fun g h=>h) (fun g h=>o.block g (hP g h)) _ _ Q
   have J:=I8 ts i k
   have I:=ih ts[i] u wr P OC (fun g h=>by have:=hP g h;omega) t
   have V:Hid (Aa.highs (ts.take (i+1))=max (Aa.highs (ts.take i)) (ts[i].high+1)):=Qa4 ts i k
   have F:Aa.highs (ts.take i)<=200000:=Nat.le_trans (Qa5 ts i) OC
   have O:ts[i].high<=200000:=OC
   clear Q t C A J R
   generalize ts[i].high=q at *
   generalize Aa.highs (ts.take i)=p at *
   go_wp2_with (go_at_call 35;refine I.mono ?_;rintro e w2 ⟨rfl,E⟩)
   go_roundw
   case rel=>exact⟨i+1,by omega,by go_num,by rw[V.out];exact Qi9 p q,a.trans (E.mono L)⟩
   case measure=>simp[intOf];omega
  ·have H:i=m:=OC
   subst H
   have N:ts.take i=ts:=List.take_of_length_le OC
   rw[N]
   have F:Aa.highs ts<=200000:=OC
   clear C A N
   go_wp2
   go_ret
   exact⟨rfl,z.trans (a.mono K)⟩
end Go.Proofs.YtjlaedokfbcbpaaGreatDoor
namespace Go.Proofs.YtjlaedokfbcbpaaGreatDoor
open Go.RowKit Proofs.Tryz
theorem Zd : Lo 0:=fun t v w P h=>OC
theorem Zc (n:Nat) (hn:n<=200000) (ih:Lo n):Lo (n+1):=by
 intro t v w P s h i;obtain⟨d,ks⟩:=t;rw[Ba]at i;obtain⟨us,⟨j,k,X,rfl,l⟩,p,q,c,m⟩:=i;have o:Aa.highs ks<=n:=by rw[Aa.high]at s;omega
 have b:(Aa.node d ks).high=Aa.highs ks:=by rw[Aa.high]
 rw[b];obtain⟨f,r,a,g⟩:=Zg d P us _ X w h p q j k l;exact levels_gen n hn ih _ f r a d P ks us X w h c g m o
theorem T1 : ∀ n,n<=200000->Lo n
 | 0,_=>Zd
 | n+1,h=>Zc n OC (T1 n OC)
theorem levels_any (t:Aa) (v:Value) (w:World) (P:Nat->Prop) (hh:t.high < 200000) (hP:∀ g,P g->g < w.heap.size) (hr:Ba P w t v) :
  Calls prog 35 #[v] w fun e w'=>e = .returned (.int .i64 ((t.high:Int)+1))/\Below w.heap.size w w' :=
 T1 200000 ON t v w P hh hP hr
theorem Tryz.eqNilB (w:World):(binOp .eql 49 (.slice none 0 0) (.slice none 0 0)).run prog w = .ok (.bool true) w:=OE
theorem Tryz.neNilB (a:Addr) (n c:Nat) (w:World):(binOp .eql 49 (.slice (some a) n c) (.slice none 0 0)).run prog w = .ok (.bool false) w:=OE
theorem CloneB_any (tb off m c:Nat) (us:List Value) (w:World) (hu:us.length=m) (hm:m<=100000) (hone:∀ u ∈ us,u.oneCell'=true) (hcell:∀ (j:Nat) u,us[j]? = some u->w.cell? (OK tb (off+j))=some u) (htb:tb < w.heap.size) :
  Calls prog 33 #[.slice (some (OK tb off)) m c] w fun e w' => ∃ S,e = .returned S/\w'.ownsRow w.heap.size 86 1 S m us/\Below w.heap.size w w':=by
 obtain⟨n,g,i,k,l⟩:=info_parts Tryz.infoBranch;have o:(w.alloc (.cells #[] 86)).ownsRow w.heap.size 86 1 (.slice (some (OK w.heap.size 0)) 0 0) 0 []:=by simpa using World.ownsRow_made (base:=w.heap.size) (e:=86) (size:=1) w #[] 0 ON OD rfl
 have f:∀ (j:Nat) u,us[j]? = some u->(w.alloc (.cells #[] 86)).cell? (((OK tb off):Addr).add j)=some u:=by
  intro j u h;have d:((OK tb off):Addr).add j=(OK tb (off+j)):=by unfold Addr.add;split <;> simp_all
  rw[d,World.cell?_alloc_past _ _ _ htb];exact hcell j u h
 clear hcell;have p:=Tryz.neNilB;go_enter func33,ntmps33;go_wp2_with (at_builtin;(refine wpList_append_own _ rfl _ _ 49 rfl w.heap.size 86 n .nilIface 1 16 underlying49 g i k l rfl OD _ 0 [] rfl o (OK tb off) m c us rfl OC f hone OI OC OB ?_;intro v' q b a _));go_ret;exact⟨_,rfl,by simpa using b,Below.grown (OP w _) a OB (fun j h=>by cases h;exact ON)⟩
theorem CloneB_nil (w:World) :
  Calls prog 33 #[.slice none 0 0] w fun e w'=>e = .returned (.slice none 0 0)/\w=w':=by
 have a:=Tryz.eqNilB;go_enter func33,ntmps33;go_wp2;go_ret;exact⟨rfl,rfl⟩
structure Ab where
 kind:Int
 text:List UInt8
 type:Int
 n:Int
 size:Nat
 code:Int
def Bi (c:Int):Ab:=⟨0,[],0,0,0,c⟩
def Aj (l:List UInt8):ByteArray:=⟨l.toArray⟩
def B5 (c:UInt8):Bool:=Dc (c.toNat:Int)
def A5 (l:List UInt8):List UInt8:=l.takeWhile B5
def Cy (l m:List UInt8):Bool:=decide (m.length<=l.length) && (l.take m.length == m)
def F1 (w:List UInt8):Ab:=if Dk (Aj w)=true then ⟨2,w,0,0,w.length,0⟩ else if 30 < w.length then Bi 5 else ⟨1,w,0,0,w.length,0⟩
def E1 (w:List UInt8):Ab:=match Mj (Aj w) with
 | none=>Bi 3
 | some (t,n)=>⟨3,[],t,wrap64 n,w.length,0⟩
def D1 (l:List UInt8):Ab:=match Ef l.tail [] with
 | none=>Bi 4
 | some (t,r)=>if 3000 < t.length then Bi 5 else ⟨4,t,0,0,l.length - r.length,0⟩
def Fl (l:List UInt8):Ab:=match Dt.find? (Cy l) with
 | some m=>⟨5,m,0,0,m.length,0⟩
 | none=>Bi 2
def Bb (l:List UInt8):Ab:=match l with
 | []=>Bi 2
 | b::_=>if Bp (b.toNat:Int)=true then F1 (A5 l) else if B4 (b.toNat:Int)=true then E1 (A5 l) else if b=34 then D1 l else Fl l
theorem Eu {W w1:World} (hb:Below W.heap.size W w1):(∀ b o,b < W.heap.size->w1.cell? (OK b o)=W.cell? (OK b o))/\(∀ b o,b < W.heap.size->w1.frozen? (OK b o)=W.frozen? (OK b o)) :=
 ⟨fun b o h=>hb.cell (p:=(OK b o)) h,fun b o h=>hb.frozen (p:=(OK b o)) h⟩
theorem Sd : ∀ (n:Nat) (l acc t r:List UInt8),l.length<=n->Ef l acc=some (t,r)->r.length < l.length/\t.length<=acc.length+l.length
 | _,[],acc,t,r,_,h=>by simp[Ef]at h
 | 0,c::l,acc,t,r,hn,h=>by simp at hn
 | n+1,c::l,acc,t,r,hn,h=>by
  rw[Li]at h
  by_cases h1:c=34
  ·rw[if_pos h1]at h;simp at h;obtain⟨rfl,rfl⟩:=h;simp
  ·rw[if_neg h1]at h
   by_cases h2:Ir c=true
   ·rw[if_pos h2]at h
    have:=Sd n l _ t r (by simpa using hn) h
    simp at this |-;omega
   ·rw[if_neg h2]at h
    by_cases h3:c=92
    ·rw[if_pos h3]at h
     match l,h,hn with
     | a::b::r2,h,hn =>
      simp only at h
      by_cases h4:0<=Br a/\0<=Br b
      ·rw[if_pos h4]at h
       have:=Sd n r2 _ t r (by simp at hn;omega) h
       simp at this |-;omega
      ·rw[if_neg h4]at h;simp at h
    ·rw[if_neg h3]at h;simp at h
theorem Qi2 {w w1:World} (B:Nat) (hB:B<=w.heap.size) (o:Obj) (hb:Below (w.alloc o).heap.size (w.alloc o) w1) (c0 c1 c2 c3 c4:Value) :
  Below B w (((((w1.setCell (OK w.heap.size 0) c0).setCell (OK w.heap.size 1) c1).setCell (OK w.heap.size 2) c2).setCell (OK w.heap.size 3) c3).setCell (OK w.heap.size 4) c4) :=
 ((((((((Below.refl B w).alloc hB o).trans (hb.mono OH)).setCell (p:=(OK w.heap.size 0)) hB _).setCell (p:=(OK w.heap.size 1)) hB _).setCell (p:=(OK w.heap.size 2)) hB _).setCell (p:=(OK w.heap.size 3)) hB _).setCell (p:=(OK w.heap.size 4)) hB _)
def D5 (s:ByteArray) (a:Nat):Nat:=(A5 (s.data.toList.drop a)).length
theorem Sf (s:ByteArray) (a:Nat):D5 s a<=s.size - a:=by
 have:=Px B5 (s.data.toList.drop a);simpa[D5,A5]using this
theorem Qcp (s:ByteArray) (a k:Nat) (h:k < s.size) (ha:a<=k) (hk:k - a<=D5 s a) (ht:Dc (s[k].toNat:Int)=true):k+1 - a<=D5 s a:=by
 have:=R9 B5 (s.data.toList.drop a) (k - a) OH hk (by
  rw[List.getElem_drop]
  have e:a+(k - a)=k:=OC
  simp only[e];exact ht)
 have e:k+1 - a=k - a+1:=OC
 rw[e];exact this
theorem Pu (s:ByteArray) (a k:Nat) (ha:a<=k) (b:k - a<=D5 s a) (ht:∀ h:k < s.size,Dc (s[k].toNat:Int)=false):k - a=D5 s a :=
 Sa B5 (s.data.toList.drop a) (k - a) b (fun h=>by
  rw[List.getElem_drop]
  have e:a+(k - a)=k:=OC
  have b:k < s.size:=by simp at h;omega
  simp only[e];exact ht b)
theorem Ll {α:Type} (p:α->Bool):∀ l:List α,l.take (l.takeWhile p).length=l.takeWhile p
 | []=>rfl
 | a::r=>by
  cases h:p a with
  | false=>simp[h]
  | true=>simp[h,Ll p r]
theorem Ik (s:ByteArray) (a k:Nat):s.extract a k=Aj ((s.data.toList.drop a).take (k - a)):=by
 have h:=Lib.extract_data s a k;exact WideShapes.bytes_inj h
theorem Qg7 (s:ByteArray) (a k:Nat) (hk:k - a=D5 s a):s.extract a k=Aj (A5 (s.data.toList.drop a)):=by
 rw[Ik,hk,D5,A5,Ll]
theorem Lf (l:List UInt8):(Aj l).size=l.length:=rfl
/- CASES -/
theorem Vn (b:UInt8) (r:List UInt8) (h:B5 b=true):1<=(A5 (b::r)).length:=by simp[A5,h]
theorem Xv (l:List UInt8):(A5 l).length<=l.length:=Px _ _
theorem Ve (m:List UInt8) (h:m ∈ Dt):1<=m.length:=by
 have:∀ x ∈ Dt,1<=x.length:=by decide
 exact this m h
theorem Vf (b:UInt8) (r:List UInt8) (a:(Bb (b::r)).code=0):1<=(Bb (b::r)).size/\(Bb (b::r)).size<=(b::r).length:=by
 revert a;simp only[Bb];by_cases h1:Bp (b.toNat:Int)=true
 ·rw[if_pos h1];have d:=Vn b r (by simp[B5,Dc,h1]);have c:=Xv (b::r);intro a;unfold F1 at a |-
  split
  ·exact⟨d,c⟩
  ·split
   ·rename_i h2 h3;rw[if_neg h2,if_pos h3]at a;simp[Bi]at a
   ·exact⟨d,c⟩
 ·rw[if_neg h1];by_cases h2:B4 (b.toNat:Int)=true
  ·rw[if_pos h2];have d:=Vn b r (by simp[B5,Dc,h2]);have c:=Xv (b::r);intro a;unfold E1 at a |-
   split
   ·rename_i h;rw[h]at a;simp[Bi]at a
   ·exact⟨d,c⟩
  ·rw[if_neg h2];by_cases h3:b=34
   ·rw[if_pos h3];intro a;unfold D1 at a |-
    split
    ·rename_i h;rw[h]at a;simp[Bi]at a
    ·rename_i t r2 h
     rw[h]at a;have:=Sd _ _ _ _ _ ON h;simp at this;split
     ·rename_i h4;simp only[if_pos h4]at a;simp[Bi]at a
     ·simp;omega
   ·rw[if_neg h3];intro a;unfold Fl at a |-
    split
    ·rename_i m h
     have f:=List.mem_of_find?_eq_some h;have g:=List.find?_some h;have:=Ve m f;simp[Cy]at g;simp;omega
    ·rename_i h;rw[h]at a;simp[Bi]at a
def R4 (c:UInt8):Bool:=c != 10
def Ez (l:List UInt8):Nat:=(l.takeWhile R4).length
def Ew : Nat->List UInt8->Nat->List (Ab × Nat)->List (Ab × Nat) × Int × Nat
 | 0,_,_,acc=>(acc,0,0)
 | _+1,[],_,acc=>(acc,0,0)
 | f+1,b::r,i,acc=>if b=32\/b=10 then Ew f r (i+1) acc
   else if b=35 then Ew f ((b::r).drop (Ez (b::r))) (i+Ez (b::r)) acc
   else if (Bb (b::r)).code≠0 then ([],(Bb (b::r)).code,i)
   else Ew f ((b::r).drop (Bb (b::r)).size) (i+(Bb (b::r)).size) (acc++[(Bb (b::r),i)])
def Hi (s:ByteArray):List (Ab × Nat) × Int × Nat:=if 12000 < s.size then ([],1,0) else Ew (s.size+1) s.data.toList 0 []
def Lh (t:Ab × Nat):List Value:=[.int .i64 t.1.kind,.string (Aj t.1.text),.int .i64 t.1.type,.int .i64 t.1.n,.int .i64 (t.2:Int)]
def H8 (ts:List (Ab × Nat)):List Value:=ts.flatMap Lh
theorem Qbd (ts:List (Ab × Nat)) (t:Ab × Nat):H8 (ts++[t])=H8 ts++Lh t:=by simp[H8]
def Qaf (c:Int) (a:Nat):Value:=.agg #[.int .i64 c,.int .i64 (a:Int)]
theorem K5 {W W':World} {B e size n:Nat} {v:Value} {xs:List Value} (h:W.ownsRow B e size v n xs) (hb:Below W.heap.size W W'):W'.ownsRow B e size v n xs:=by
 refine⟨h.1, ?_⟩;rcases h.2 with f|⟨g,b,c,i,d,a,rest⟩
 ·exact .inl f
 ·exact .inr ⟨g,b,c,i,d,by rw[hb.block g (Array.getElem?_eq_some_iff.1 a).1];exact a,rest⟩
theorem Qw (w:World) (cs:Array Value) (t:TypeId) (j:Nat) (u:Value) (h:cs.toList[j]? = some u):(w.alloc (.cells cs t)).cell? (((OK w.heap.size 0):Addr).add j)=some u:=by
 have a:((OK w.heap.size 0):Addr).add j=(OK w.heap.size j):=by unfold Addr.add;split <;> simp_all
 rw[a,cell_of_row _ _ _ cs t (0,0) (heap_alloc_new w _)];simpa using h
theorem Tryz.infoTok : (prog.info? 113).map (fun i=>(i.zero,i.size,i.bytes))=some (some (.agg #[.int .i64 0,.string ByteArray.empty,.int .i64 0,.int .i64 0,.int .i64 0]),5,48):=OE
end Go.Proofs.YtjlaedokfbcbpaaGreatDoor
