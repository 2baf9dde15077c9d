import Derived.Test.YtfjkahdghhbpnaaGreatDoorKCfL
import Derived.Test.YtfjkahdghhbpnaaGreatDoorKCdA
import Derived.Test.YtfjkahdghhbpnaaGreatDoorKCfT
import Derived.Test.YtfjkahdghhbpnaaGreatDoorKCdW
set_option maxRecDepth 100000
set_option maxHeartbeats 2000000
namespace Go.Proofs.YtfjkahdghhbpnaaGreatDoor
open Go.RowKit
theorem Tf {a b:Ap} (h:Dp a b) (ha:a ≠ .none):b ≠ .none:=by
 intro e
 subst e
 cases a with
 | none=>exact ha rfl
 | known s k=>exact h
 | clash=>exact h
theorem Nq {W:List Int} (h:Ej W):W.Nodup:=by
 rw[List.nodup_iff_pairwise_ne,List.pairwise_iff_getElem]
 intro i j b c a e
 have:=h i j b c a
 omega
theorem Yx {W W':List Int} (h:Ej W) (h':Ej W') (hm:∀ v,v ∈ W' ↔ v ∈ W):W'.length=W.length :=
 ((List.perm_ext_iff_of_nodup (Nq h') (Nq h)).2 hm).length_eq
structure Oq (Z:Db) (X:List Ap) (W:List Int):Prop where
 low:Hc Z X
 first:0 < Z.n->Dp Z.first (Ao X 0)
 work:∀ v ∈ W,∃ u:Nat,v=(u:Int)/\u < Z.n/\Ao X u ≠ .none
 rest:∀ u,u < Z.n->(u:Int) ∉ W->Ao X u ≠ .none->∀ v ∈ Z.goes u,v < Z.n->Dp (Z.left u (Ao X u)) (Ao X v)
structure L7 (Z:Db) (X:List Ap) (W:List Int) (i:Nat) (b:Ap) (gl:List Nat) (k:Nat):Prop where
 low:Hc Z X
 first:0 < Z.n->Dp Z.first (Ao X 0)
 work:∀ v ∈ W,∃ u:Nat,v=(u:Int)/\u < Z.n/\Ao X u ≠ .none
 rest:∀ u,u < Z.n->u≠i->(u:Int) ∉ W->Ao X u ≠ .none->∀ v ∈ Z.goes u,v < Z.n->Dp (Z.left u (Ao X u)) (Ao X v)
 here:(i:Int) ∉ W->b=Z.left i (Ao X i)/\∀ j (hj:j < gl.length),j < k->gl[j] < Z.n->Dp b (Ao X gl[j])
 blow:∀ v ∈ gl,v < Z.n->∀ Y,I1 Z Y->Dp b (Ao Y v)
 blen:Dl Z.m b
def Jv (Z:Db) (X:List Ap) (W:List Int):Nat:=2 * (Z.n * (Z.m+2) - H7 Z.m X)+W.length
theorem Oq.fix {Z:Db} {X:List Ap} (h:Oq Z X []):Hc Z X/\I1 Z X :=
 ⟨h.low,h.low.size,fun u hu hn=>h.rest u hu (by simp) hn,h.first⟩
theorem N4 (n u:Nat):Ao (List.replicate n .none) u = .none:=by
 unfold Ao
 rw[List.getD_eq_getElem?_getD,List.getElem?_replicate]
 by_cases e:u < n <;> simp[e]
theorem Oq.start (Z:Db) (hf:Z.first ≠ .none) (hn:0 < Z.n) {W:List Int} (hW:∀ v,v ∈ W ↔ v=0):Oq Z ((List.replicate Z.n .none).set 0 (Bd .none Z.first)) W:=by
 have d:=N4 Z.n 0
 have c:=(Hc.start Z).come 0 hn Z.first Z.flen (fun Y hY=>hY.first hn)
 rw[d]at c
 have a:0 < (List.replicate Z.n Ap.none).length:=by simpa using hn
 have b:Dp Z.first (Bd .none Z.first):=Kv (m:=Z.m) trivial Z.flen
 refine⟨c,fun _ => ?_,fun v hv=>⟨0,by simpa using (hW v).1 hv,hn, ?_⟩,fun u hu hnw hun => ?_⟩
 ·rw[Et _ _ _ _ a,if_pos rfl];exact b
 ·rw[Et _ _ _ _ a,if_pos rfl];exact Tf b hf
 ·by_cases e:u=0
  ·subst e;exact absurd ((hW _).2 (by simp)) hnw
  ·rw[Et _ _ _ _ a,if_neg e,N4]at hun;exact(hun rfl).elim
theorem Oq.pop {Z:Db} {X:List Ap} {W:List Int} {i:Nat} (h:Oq Z X (W++[(i:Int)])):i < Z.n/\Ao X i ≠ .none/\L7 Z X W i (Z.left i (Ao X i)) (Z.goes i) 0:=by
 obtain⟨u,e,c,b⟩:=h.work (i:Int) (by simp)
 have d:u=i:=by omega
 subst d
 refine⟨c,b,h.low,h.first,fun v hv=>h.work v (List.mem_append_left _ hv),fun x hx hxi hxw=>h.rest x hx (fun a => ?_),fun _=>⟨rfl,fun j hj hk=>by omega⟩,fun v hv hvn Y hY=>h.low.leaves u c b v hvn hv Y hY,Z.keep u _ (h.low.lens u)⟩
 rcases List.mem_append.1 a with a|a
 ·exact hxw a
 ·rw[List.mem_singleton]at a;exact hxi (by omega)
theorem L7.done {Z:Db} {X:List Ap} {W:List Int} {i:Nat} {b:Ap} {k:Nat} (h:L7 Z X W i b (Z.goes i) k) (hk:(Z.goes i).length<=k):Oq Z X W:=by
 refine⟨h.low,h.first,h.work,fun u hu hw hn v hv hvn => ?_⟩
 by_cases e:u=i
 ·subst e
  obtain⟨c,a⟩:=h.here hw
  obtain⟨j,d,rfl⟩:=List.getElem_of_mem hv
  rw[<- c]
  exact a j d (by omega) hvn
 ·exact h.rest u hu e hw hn v hv hvn
theorem L7.skip {Z:Db} {X:List Ap} {W:List Int} {i:Nat} {b:Ap} {gl:List Nat} {k:Nat} (h:L7 Z X W i b gl k) (hk:k < gl.length) (hv:¬ gl[k] < Z.n):L7 Z X W i b gl (k+1) :=
 ⟨h.low,h.first,h.work,h.rest,fun hw=>⟨(h.here hw).1,fun j hj hjk hjn=>by
  by_cases e:j=k
  ·subst e;exact(hv hjn).elim
  ·exact(h.here hw).2 j hj (by omega) hjn⟩,h.blow,h.blen⟩
theorem Qcr (X:List Ap) (v:Nat) (hv:v < X.length):X.set v (Ao X v)=X:=by
 unfold Ao
 rw[List.getD_eq_getElem?_getD,List.getElem?_eq_getElem hv]
 exact List.set_getElem_self hv
theorem L7.step {Z:Db} {X:List Ap} {W W':List Int} {i:Nat} {b:Ap} {gl:List Nat} {k:Nat} (h:L7 Z X W i b gl k) (hk:k < gl.length) (a:gl[k] < Z.n) (hbn:b ≠ .none) (hd:Ej W) (hd':Ej W') (hl:W'.length<=W.length+1)
  (hW:∀ v,v ∈ W' ↔ v ∈ W\/(v=(gl[k]:Int)/\Bd (Ao X gl[k]) b≠Ao X gl[k])) :
  L7 Z (X.set gl[k] (Bd (Ao X gl[k]) b)) W' i b gl (k+1)/\Jv Z (X.set gl[k] (Bd (Ao X gl[k]) b)) W'<=Jv Z X W:=by
 have c:gl[k] < X.length:=by rw[h.low.size];exact a
 have o:=Oy (h.low.lens gl[k]) h.blen
 have g:=Kv (h.low.lens gl[k]) h.blen
 by_cases he:Bd (Ao X gl[k]) b=Ao X gl[k]
 ·have q:∀ v,v ∈ W' ↔ v ∈ W:=fun v=>by rw[hW v];simp[he]
  rw[he,Qcr X _ c]
  rw[he]at g
  refine⟨⟨h.low,h.first,fun v a=>h.work v ((q v).1 a),fun u l hui hw=>h.rest u l hui (fun x=>hw ((q _).2 x)),fun hw => ?_,h.blow,h.blen⟩,by unfold Jv;rw[Yx hd hd' q];exact Nat.le_refl _⟩
  obtain⟨s,t⟩:=h.here (fun x=>hw ((q _).2 x))
  refine⟨s,fun j hj hjk hjn => ?_⟩
  by_cases e:j=k
  ·subst e;exact g
  ·exact t j hj (by omega) hjn
 ·have d:=h.low.come gl[k] a b h.blen (h.blow gl[k] (List.getElem_mem hk) a)
  have B:=(Mo (h.low.lens gl[k]) (Mr (h.low.lens gl[k]) h.blen) o).2 (fun e=>he e.symm)
  have A:=Oa Z.m X gl[k] (Bd (Ao X gl[k]) b) c
  have p:=P5 Z.m _ d.lens
  rw[d.size]at p
  have m:∀ u,Dp (Ao X u) (Ao (X.set gl[k] (Bd (Ao X gl[k]) b)) u):=fun u=>by
   rw[Et _ _ _ _ c]
   by_cases e:u=gl[k]
   ·rw[if_pos e,e];exact o
   ·rw[if_neg e];exact Dp.refl _
  have y:(gl[k]:Int) ∈ W':=(hW _).2 (.inr ⟨rfl,he⟩)
  have z:∀ u:Nat,(u:Int) ∉ W'->u≠gl[k]:=fun u l e=>l (by rw[e];exact y)
  have f:∀ u:Nat,(u:Int) ∉ W'->Ao (X.set gl[k] (Bd (Ao X gl[k]) b)) u=Ao X u:=fun u l=>by rw[Et _ _ _ _ c,if_neg (z u l)]
  have n:∀ v,v ∉ W'->v ∉ W:=fun v a hx=>a ((hW v).2 (.inl hx))
  refine⟨⟨d,fun hz=>(h.first hz).trans (m 0),fun v a => ?_,fun u l hui hw r v a hvn => ?_,fun hw => ?_,h.blow,h.blen⟩,by unfold Jv;omega⟩
  ·rcases(hW v).1 a with a|⟨rfl,_⟩
   ·obtain⟨u,e,l,r⟩:=h.work v a
    exact⟨u,e,l,Tf (m u) r⟩
   ·exact⟨gl[k],rfl,by assumption,by rw[Et _ _ _ _ c,if_pos rfl];exact Tf g hbn⟩
  ·rw[f u hw]at r |-
   exact(h.rest u l hui (n _ hw) r v a hvn).trans (m v)
  ·obtain⟨s,t⟩:=h.here (n _ hw)
   refine⟨by rw[f i hw];exact s,fun j hj hjk hjn => ?_⟩
   by_cases e:j=k
   ·subst e;rw[Et _ _ _ _ c,if_pos rfl];exact g
   ·exact(t j hj (by omega) hjn).trans (m _)
theorem Tryz.infoLay : (Tryz.prog.info? 189).map (fun i=>(i.zero,i.size,i.bytes))=some (some (.agg #[.int .i64 0,.string ⟨#[]⟩,.string ⟨#[]⟩]),3,40):=by kernel_rfl
theorem Zy : ∃ i,Tryz.prog.info? 189=some i/\i.zero=some (.agg #[.int .i64 0,.string ⟨#[]⟩,.string ⟨#[]⟩])/\i.size=3/\i.bytes=40:=by
 have h:=Tryz.infoLay
 cases hi:Tryz.prog.info? 189 with
 | none=>rw[hi]at h;simp at h
 | some i=>rw[hi]at h;simp at h;exact⟨i,rfl,h.1,h.2.1,h.2.2⟩
theorem Tryz.infoU8 : (Tryz.prog.info? 5).map (fun i=>(i.zero,i.size,i.bytes))=some (some (.int .u8 0),1,1):=by kernel_rfl
theorem Qbo : ∃ i,Tryz.prog.info? 5=some i/\i.zero=some (.int .u8 0)/\i.size=1/\i.bytes=1:=by
 have h:=Tryz.infoU8
 cases hi:Tryz.prog.info? 5 with
 | none=>rw[hi]at h;simp at h
 | some i=>rw[hi]at h;simp at h;exact⟨i,rfl,h.1,h.2.1,h.2.2⟩
theorem Mv (n u j:Nat) (hu:u < n) (hj:j < 3):(madeCells (Value.agg #[.int .i64 0,.string ⟨#[]⟩,.string ⟨#[]⟩]).cells (n * 3))[u * 3+j]? = (#[Value.int .i64 0,.string ⟨#[]⟩,.string ⟨#[]⟩]:Array Value)[j]?:=by
 have b:u * 3+j < n * 3:=by omega
 have c:(u * 3+j) % 3=j:=by omega
 have d:(Value.agg #[.int .i64 0,.string ⟨#[]⟩,.string ⟨#[]⟩]).cells = #[Value.int .i64 0,.string ⟨#[]⟩,.string ⟨#[]⟩]:=rfl
 rw[d]
 unfold madeCells
 simp only[Array.getElem?_map,List.size_toArray,List.length_cons,List.length_nil]
 rw[Array.getElem?_eq_getElem (by simpa using b)]
 simp only[Array.getElem_range,Option.map_some,c]
 have a:j=0\/j=1\/j=2:=by omega
 rcases a with rfl|rfl|rfl <;> rfl
theorem Ci.made {W:World} {g n:Nat} (h:W.heap[g]? = some (.cells (madeCells (Value.agg #[.int .i64 0,.string ⟨#[]⟩,.string ⟨#[]⟩]).cells (n * 3)) 189 (0,0))):Ci g W (List.replicate n .none):=by
 refine⟨⟨_,h,by rw[List.length_replicate,size_madeCells],fun u hu => ?_⟩⟩
 rw[List.length_replicate]at hu
 rw[List.getElem_replicate]
 refine⟨?_, ?_, ?_⟩
 ·have:=Mv n u 0 hu (by omega);exact this
 ·rw[Mv n u 1 hu (by omega)];rfl
 ·rw[Mv n u 2 hu (by omega)];rfl
theorem Z1 (n j:Nat) (hj:j < n):(madeCells (Value.int .u8 0).cells (n * 1))[j]? = some (.int .u8 0):=by
 have a:(Value.int .u8 0).cells = #[Value.int .u8 0]:=rfl
 rw[a]
 unfold madeCells
 simp only[Array.getElem?_map,List.size_toArray,List.length_cons,List.length_nil]
 rw[Array.getElem?_eq_getElem (by simpa using hj)]
 simp only[Array.getElem_range,Option.map_some,Nat.zero_add,Nat.mod_one]
 rfl
theorem Tp {w:World} {B:Nat} {wa:Option Addr} {wc:Nat} {W:List Int} {z:Int} (h:w.ownsRow B 3 1 (.slice wa (W++[z]).length wc) (W++[z]).length (Al (W++[z]))):w.ownsRow B 3 1 (.slice wa W.length wc) W.length (Al W)/\(∃ k,wa=some ⟨k,0,none⟩)/\W.length+1<=wc:=by
 obtain⟨o,b⟩:=h
 rcases b with⟨b,j⟩|⟨g,i,a,b,l,m,d,n,hs,f⟩
 ·simp at j
 ·injection b with e1 e2 e3
  subst e1 e3
  rw[List.length_append,List.length_singleton]at d f
  refine⟨⟨by simp[Al],.inr ⟨g,wc,a,rfl,l,m,by omega,n,hs, ?_⟩⟩,⟨g,rfl⟩,d⟩
  have c:(a.toList.take ((W.length+1) * 1)).take (W.length * 1)=Al W:=by
   rw[f,Iv,Nat.mul_one,show W.length=(Al W).length by simp[Al],List.take_left]
  rw[List.take_take,Nat.min_eq_left (by omega)]at c
  exact c
theorem S5 {W:List Int} (h:Ej W) (h0:0 < W.length):∀ j (hj:j < W.length),W[j]+(j:Int)<=W[0]
 | 0,_=>by simp
 | j+1,hj=>by
  have a:=S5 h h0 j (by omega)
  have b:=h j (j+1) (by omega) hj (by omega)
  omega
theorem S6 {W:List Int} {n:Nat} (h:Ej W) (hb:∀ v ∈ W,∃ u:Nat,v=(u:Int)/\u < n):W.length<=n:=by
 by_cases h0:W.length=0
 ·omega
 ·have b:=S5 h (by omega) (W.length - 1) (by omega)
  obtain⟨u,e,c⟩:=hb _ (List.getElem_mem (l:=W) (n:=0) (by omega))
  obtain⟨v,a,d⟩:=hb _ (List.getElem_mem (l:=W) (n:=W.length - 1) (by omega))
  omega
theorem Yv {W:List Int} {z:Int} (h:Ej (W++[z])):Ej W:=fun i j h1 h2 hij=>by
 have:=h i j (by simp;omega) (by simp;omega) hij
 rwa [List.getElem_append_left h1,List.getElem_append_left h2]at this
theorem Wn (c:List Ae) (f:Ae) (u:Nat) (a:Ap):Cm c f u a ≠ .none:=by
 cases a with
 | none=>simp[Cm]
 | clash=>simp[Cm]
 | known s k =>
  show Bn _ _ _ _ _ _≠_
  unfold Bn
  repeat' split
  all_goals simp
theorem Sv {c:List Ae} {f:Ae} (hR:Jn c f) {u:Nat} (hu:u < f.ins.length) {a:Ap} (hf:Dn a) (hl:Dl f.slots.toNat a):Dn (Cm c f u a):=by
 cases a with
 | none=>trivial
 | clash=>trivial
 | known s k =>
  have b:=Re (s:=s) (k:=k) hR.fns hR.res (hR.ok u hu) hl hf.2.1
  have h:=Tg (at':=u) hR.fns hu b hf
  show Dn (Bn c f (f.ins.getD u H6) u s k)
  rw[List.getD_eq_getElem?_getD,List.getElem?_eq_getElem hu]
  exact h
theorem Io {a:Ap} (h:Dn a):Gp a:=by
 cases a with
 | none=>trivial
 | clash=>trivial
 | known s k=>exact⟨h.1,fun t ht=>⟨by have:=(h.2.1 t ht).1;omega,(h.2.1 t ht).2⟩⟩
theorem Q1 {X:List Ap} {v:Nat} {a:Ap} (hX:∀ u,Dn (Ao X u)) (ha:Dn a) (hv:v < X.length) (u:Nat):Dn (Ao (X.set v a) u):=by
 rw[Et _ _ _ _ hv]
 by_cases e:u=v
 ·rw[if_pos e];exact ha
 ·rw[if_neg e];exact hX u
theorem Ci.uniq {g:Nat} {W:World} {X Y:List Ap} (h:Ci g W X) (k:Ci g W Y) (hX:∀ u,Dn (Ao X u)) (hY:∀ u,Dn (Ao Y u)):X=Y:=by
 obtain⟨x,r,z,s⟩:=h.blk
 obtain⟨y,a,A,v⟩:=k.blk
 rw[r]at a
 injection a with a
 injection a with a
 subst a
 have t:X.length=Y.length:=by omega
 refine List.ext_getElem t fun u h4 h5 => ?_
 obtain⟨l,m,n⟩:=s u h4
 obtain⟨b,c,d⟩:=v u h5
 rw[l]at b
 rw[m]at c
 rw[n]at d
 have o:Eb X[u]=Eb Y[u]:=by simpa using b
 have p:E7 X[u]=E7 Y[u]:=by simpa using c
 have q:E6 X[u]=E6 Y[u]:=by simpa using d
 have i:=hX u
 have j:=hY u
 rw[Hr h4]at i
 rw[Hr h5]at j
 have f:=Q9 (Io i) (Io j)
 rw[o,p,q]at f
 simpa using f
noncomputable def Tm (Z:Db) (g gl:Nat) (w:World):Nat:=Classical.epsilon (fun k => ∃ (X:List Ap) (W:List Int) (wa:Option Addr) (wc:Nat),Ci gl w X/\(∀ u,Dn (Ao X u))/\w.cell? ⟨g,7,none⟩=some (.slice wa W.length wc)/\k=Jv Z X W)
theorem V9 {Z:Db} {g gl:Nat} {w:World} {X:List Ap} {W:List Int} {wa:Option Addr} {wc:Nat} (h1:Ci gl w X) (h2:∀ u,Dn (Ao X u)) (h3:w.cell? ⟨g,7,none⟩=some (.slice wa W.length wc)):Tm Z g gl w=Jv Z X W:=by
 obtain⟨Y,V,f,h,b,c,a,d⟩:=Classical.epsilon_spec (p:=fun k => ∃ (X:List Ap) (W:List Int) (wa:Option Addr) (wc:Nat),Ci gl w X/\(∀ u,Dn (Ao X u))/\w.cell? ⟨g,7,none⟩=some (.slice wa W.length wc)/\k=Jv Z X W) ⟨_,X,W,wa,wc,h1,h2,h3,rfl⟩
 unfold Tm
 rw[d,<- h1.uniq b h2 c]
 rw[h3]at a
 have e:W.length=V.length:=by simp at a;exact a.2.1
 unfold Jv
 rw[e]
theorem Qa3 {c:List Ae} {f:Ae} (hR:Jn c f) {u:Nat} (hu:u < f.ins.length):∀ v ∈ A8 f.ins[u] u,v<=f.ins.length:=by
 intro v a
 have d:=Ka (hR.ok u hu)
 have b:=d.2.2.2.2.2.2.2.1
 unfold A8 at a
 by_cases h1:f.ins[u].op=12\/f.ins[u].op=13
 ·rw[if_pos h1]at a;simp at a
 ·rw[if_neg h1]at a
  by_cases h2:f.ins[u].op=10
  ·rw[if_pos h2]at a
   have:=b (.inl h2)
   simp at a
   omega
  ·rw[if_neg h2]at a
   by_cases h3:f.ins[u].op=11
   ·rw[if_pos h3]at a
    have:=b (.inr h3)
    simp at a
    omega
   ·rw[if_neg h3]at a
    simp at a
    omega
theorem Ws {f:Ae} (j:Nat):(B8 f).getD j 0=if j < f.params.length then f.params.getD j 0 else 0:=by
 unfold B8
 rw[List.getD_eq_getElem?_getD,List.getElem?_append]
 by_cases e:j < f.params.length
 ·rw[if_pos e,if_pos e,List.getD_eq_getElem?_getD]
 ·rw[if_neg e,if_neg e,List.getElem?_replicate]
  split <;> rfl
theorem R1 {f:Ae} (h:∀ t ∈ f.params,1<=t/\t<=10):Hh (B8 f):=by
 intro t b
 unfold B8 at b
 rcases List.mem_append.1 b with a|a
 ·have:=h t a;omega
 ·have:=List.eq_of_mem_replicate a;omega
theorem Uy (i:Ax) (at':Nat) (h1:1<=i.op) (h16:i.op<=16) (hat:at'<=1048576) (ha:i.op=10\/i.op=11->0<=i.a) (w:World) (hT:Cg w) :
    Calls Tryz.prog 122 #[An i,.int .i64 (at':Int)] w fun e w' => ∃ v,e = .returned v/\Ab w'.heap.size w' v (Co (A8 i at'))/\Below w.heap.size w w'/\∀ k,v.ownBlock=some k->w.heap.size<=k:=by
  obtain⟨y,a,n,b⟩:=i
  simp only at h1 h16 ha
  obtain⟨m,rfl⟩:∃ m:Nat,y=(m:Int):=⟨y.toNat,by omega⟩
  have r:1<=m:=by omega
  have o:m<=16:=by omega
  unfold An
  have A:wrap64 ((at':Int)+1)=(at':Int)+1:=IntWalk.wrap64_in _ (by omega)
  obtain⟨c,j⟩:∃ Y,w.alloc (.cells #[.int .i64 (m:Int),.int .i64 a,.int .i64 n,.string b] 140)=Y:=⟨_,rfl⟩
  have f:Below w.heap.size w c:=by rw[<- j];exact A5 w _
  have l:c.heap.size=w.heap.size+1:=by rw[<- j];exact World.size_alloc _ _
  have d:c.heap[w.heap.size]? = some (.cells #[.int .i64 (m:Int),.int .i64 a,.int .i64 n,.string b] 140):=by rw[<- j];exact Ag w _
  have s:c.cell? ⟨w.heap.size,0,none⟩=some (.int .i64 (m:Int)):=by rw[Lib.cell_of_heap d];rfl
  have t:c.cell? ⟨w.heap.size,1,none⟩=some (.int .i64 a):=by rw[Lib.cell_of_heap d];rfl
  have u:c.cell? ⟨w.heap.size,2,none⟩=some (.int .i64 n):=by rw[Lib.cell_of_heap d];rfl
  have x:c.cell? ⟨w.heap.size,3,none⟩=some (.string b):=by rw[Lib.cell_of_heap d];rfl
  clear d
  have q:c.cell? ⟨0,m * 5+4,none⟩=some (.int .i64 (B2 m).2.2.2.2):=(f.cell (p:=⟨_,_,none⟩) hT.lt).trans (hT.goes m r o)
  clear hT
  have z:(m:Int) < 17:=by omega
  by_cases h10:m=10
  · have g:Hid (A8 ⟨(m:Int),a,n,b⟩ at'=[a.toNat]):=by rw[Hid,h10];simp[A8]
    have e:(B2 m).2.2.2.2=1:=by rw[h10];rfl
    rw[e]at q
    obtain⟨k,rfl⟩:∃ k:Nat,a=(k:Int):=⟨a.toNat,by have:=ha (.inl (by omega));omega⟩
    rw[g.out]
    clear h10 ha e
    go_enter Tryz.func122,Tryz.ntmps122
    go_wp2_with fail
    go_ret
    exact⟨.slice (some ⟨c.heap.size,0,none⟩) 1 1,by simp[l],Ab.newZ (Z:=c) (hs:=[(k:Int)]) _ _ rfl,Ac f _,fun k hk=>(by have e:c.heap.size=k:=(by simpa[Value.ownBlock]using hk);omega)⟩
  · by_cases h11:m=11
    · have g:Hid (A8 ⟨(m:Int),a,n,b⟩ at'=[a.toNat,at'+1]):=by rw[Hid,h11];simp[A8]
      have e:(B2 m).2.2.2.2=2:=by rw[h11];rfl
      rw[e]at q
      obtain⟨k,rfl⟩:∃ k:Nat,a=(k:Int):=⟨a.toNat,by have:=ha (.inr (by omega));omega⟩
      rw[g.out]
      clear h10 h11 ha e
      go_enter Tryz.func122,Tryz.ntmps122
      go_wp2_with fail
      go_ret
      exact⟨.slice (some ⟨c.heap.size,0,none⟩) 2 2,by simp[l],Ab.newZ (Z:=c) (hs:=[(k:Int),(at':Int)+1]) _ _ rfl,Ac f _,fun k hk=>(by have e:c.heap.size=k:=(by simpa[Value.ownBlock]using hk);omega)⟩
    · by_cases h12:m=12\/m=13
      · have g:Hid (A8 ⟨(m:Int),a,n,b⟩ at'=[]):=by
          rw[Hid];rcases h12 with h|h <;> (rw[h];simp[A8])
        have e:(B2 m).2.2.2.2=3:=by rcases h12 with h|h <;> (rw[h];rfl)
        rw[e]at q
        rw[g.out]
        clear h10 h11 h12 ha e
        go_enter Tryz.func122,Tryz.ntmps122
        go_wp2_with fail
        go_ret
        exact⟨.slice none 0 0,rfl,⟨none,0,rfl,fun i hi=>by simp[Co]at hi⟩,f,fun k hk=>by simp[Value.ownBlock]at hk⟩
      · have g:Hid (A8 ⟨(m:Int),a,n,b⟩ at'=[at'+1]):=by
          rw[Hid];unfold A8
          rw[if_neg (by simp only;omega),if_neg (by simp only;omega),if_neg (by simp only;omega)]
        have e:(B2 m).2.2.2.2=0:=by
          have h:m=1\/m=2\/m=3\/m=4\/m=5\/m=6\/m=7\/m=8\/m=9\/m=14\/m=15\/m=16:=by omega
          rcases h with h|h|h|h|h|h|h|h|h|h|h|h <;> (rw[h];rfl)
        rw[e]at q
        rw[g.out]
        clear h10 h11 h12 ha e
        go_enter Tryz.func122,Tryz.ntmps122
        go_wp2_with fail
        go_ret
        exact⟨.slice (some ⟨c.heap.size,0,none⟩) 1 1,by simp[l],Ab.newZ (Z:=c) (hs:=[(at':Int)+1]) _ _ rfl,Ac f _,fun k hk=>(by have e:c.heap.size=k:=(by simpa[Value.ownBlock]using hk);omega)⟩
theorem D1.pop {B g gl:Nat} {c:List Ae} {f:Ae} {ca ia:Option Addr} {cc ic lc:Nat} {pv:Value} {X:List Ap} {W:List Int} {z:Int} {wa:Option Addr} {wc:Nat} {w:World} (h:D1 B g gl c f ca ia cc ic lc pv X (W++[z]) wa wc w):D1 B g gl c f ca ia cc ic lc pv X W wa wc (w.setCell ⟨g,7,none⟩ (.slice wa W.length wc)):=by
 obtain⟨m,⟨k,rfl⟩,p⟩:=Tp h.row
 have a:∀ j,j≠g->(w.setCell ⟨g,7,none⟩ (.slice (some ⟨k,0,none⟩) W.length wc)).heap[j]? = w.heap[j]?:=fun j hj=>by simp[World.setCell,Array.getElem?_modify,Ne.symm hj]
 have i:(w.setCell ⟨g,7,none⟩ (.slice (some ⟨k,0,none⟩) W.length wc)).heap[g]? = some (.cells #[.slice ca c.length cc,.string f.name,pv,.int .i64 f.result,.int .i64 f.slots,.slice ia f.ins.length ic,.slice (some ⟨gl,0,none⟩) f.ins.length lc,.slice (some ⟨k,0,none⟩) W.length wc] 186 (0,0)):=by simp[World.setCell,Array.getElem?_modify,h.tr.blk]
 have b:k≠g:=fun e=>h.rg (by rw[e];rfl)
 have d:Ci gl (w.setCell ⟨g,7,none⟩ (.slice (some ⟨k,0,none⟩) W.length wc)) X:=by
  obtain⟨l,n,o⟩:=h.lays.blk
  exact⟨l,(a gl (Ne.symm h.ne)).trans n,o⟩
 refine⟨h.gB,h.glB,h.ne,by rw[World.size_setCell];exact h.size,⟨i⟩,d,h.len,Iw m (fun j hj=>a j (fun e=>b ?_)),fun e=>h.rg ?_,fun e=>h.rl ?_⟩
 ·have:k=j:=by simpa[Value.ownBlock]using hj
  omega
 ·simpa[Value.ownBlock]using e
 ·simpa[Value.ownBlock]using e
theorem D1.last {B g gl:Nat} {c:List Ae} {f:Ae} {ca ia:Option Addr} {cc ic lc:Nat} {pv:Value} {X:List Ap} {W:List Int} {z:Int} {wa:Option Addr} {wc:Nat} {w:World} (h:D1 B g gl c f ca ia cc ic lc pv X (W++[z]) wa wc w):∃ k,wa=some ⟨k,0,none⟩/\W.length+1<=wc/\w.cell? ⟨k,W.length,none⟩=some (.int .i64 z)/\w.cell? ⟨g,7,none⟩=some (.slice (some ⟨k,0,none⟩) (W.length+1) wc)/\w.frozen? ⟨g,7,none⟩=false:=by
 obtain⟨-,⟨k,rfl⟩,l⟩:=Tp h.row
 have d:=h.tr.cells.2.2.2.2.2.2.2
 rw[List.length_append,List.length_singleton]at d
 refine⟨k,rfl,l, ?_,d,by simp[World.frozen?,h.tr.blk]⟩
 rcases h.row.2 with⟨b,_⟩|⟨o,j,a,b,_,m,p,q,hs,n⟩
 ·simp at b
 ·injection b with e1
  injection e1 with e1
  injection e1 with e1
  subst e1
  rw[Lib.cell_of_heap m,<- Array.getElem?_toList]
  have i:(a.toList.take ((W++[z]).length * 1))[W.length]? = some (.int .i64 z):=by
   rw[n,Iv,List.getElem?_append_right (by simp[Al])]
   simp[Al]
  rw[List.getElem?_take]at i
  rwa [if_pos (by simp)]at i
def Qdc (B g gl:Nat) (c:List Ae) (f:Ae) (ca ia:Option Addr) (cc ic lc:Nat) (pv:Value) (V w:World):Prop :=
 ∃ (X:List Ap) (W:List Int) (wa:Option Addr) (wc:Nat),D1 B g gl c f ca ia cc ic lc pv X W wa wc w/\Oq (Ce c f) X W/\Ej W/\(∀ u,Dn (Ao X u))/\Below B V w
structure Oo (B g gl:Nat) (c:List Ae) (f:Ae) (ca ia:Option Addr) (cc ic lc:Nat) (pv:Value) (V:World) (i:Nat) (b:Ap) (G:List Nat) (v:Value) (bl:Nat) (M:Nat) (k:Nat) (X:List Ap) (W:List Int) (wa:Option Addr) (wc:Nat) (w:World):Prop where
 st:D1 B g gl c f ca ia cc ic lc pv X W wa wc w
 wm:L7 (Ce c f) X W i b G k
 dn:Ej W
 fine:∀ u,Dn (Ao X u)
 since:Below B V w
 ms:Jv (Ce c f) X W+1<=M
 ints:Ab w.heap.size w v (Co G)
 voff:∀ j,v.ownBlock=some j->j≠g/\j≠gl/\(Value.slice wa W.length wc).ownBlock≠some j
 left:w.heap[bl]? = some (.cells #[.int .i64 (Eb b),.string (E7 b),.string (E6 b)] 189 (0,0))
 loff:bl≠g/\bl≠gl/\(Value.slice wa W.length wc).ownBlock≠some bl
theorem Oo.skip {B g gl:Nat} {c:List Ae} {f:Ae} {ca ia:Option Addr} {cc ic lc:Nat} {pv:Value} {V:World} {i:Nat} {b:Ap} {G:List Nat} {v:Value} {bl M k:Nat} {X:List Ap} {W:List Int} {wa:Option Addr} {wc:Nat} {w:World} (h:Oo B g gl c f ca ia cc ic lc pv V i b G v bl M k X W wa wc w) (hk:k < G.length) (hto:¬ G[k] < f.ins.length) {w':World} (hb:Below w.heap.size w w'):Oo B g gl c f ca ia cc ic lc pv V i b G v bl M (k+1) X W wa wc w':=by
 have a:bl < w.heap.size:=(Array.getElem?_eq_some_iff.1 h.left).1
 exact⟨h.st.below hb,h.wm.skip hk hto,h.dn,h.fine,h.since.trans (hb.mono h.st.size),h.ms,Ab.mono (h.ints.below hb) hb.size,h.voff,(hb.block bl a).trans h.left,h.loff⟩
theorem Oo.step {B g gl:Nat} {c:List Ae} {f:Ae} {ca ia:Option Addr} {cc ic lc:Nat} {pv:Value} {V:World} {i:Nat} {b:Ap} {G:List Nat} {v:Value} {bl M k:Nat} {X:List Ap} {W:List Int} {wa:Option Addr} {wc:Nat} {w:World} (h:Oo B g gl c f ca ia cc ic lc pv V i b G v bl M k X W wa wc w) (hk:k < G.length) (hto:G[k] < f.ins.length) (hbn:b ≠ .none) (hbf:Dn b) {W':List Int} {wa':Option Addr} {wc':Nat} {w':World}
  (hS:D1 B g gl c f ca ia cc ic lc pv (X.set G[k] (Bd (Ao X G[k]) b)) W' wa' wc' w') (hB:Below B w w') (hd:Ej W') (hl:W'.length<=W.length+1) (hm:∀ z,z ∈ W' ↔ z ∈ W\/(z=(G[k]:Int)/\Bd (Ao X G[k]) b≠Ao X G[k])) (hfr:Qdy g gl (Value.slice wa W.length wc).ownBlock (Value.slice wa' W'.length wc').ownBlock w w') :
  Oo B g gl c f ca ia cc ic lc pv V i b G v bl M (k+1) (X.set G[k] (Bd (Ao X G[k]) b)) W' wa' wc' w':=by
 have d:bl < w.heap.size:=(Array.getElem?_eq_some_iff.1 h.left).1
 obtain⟨p,s⟩:=h.wm.step hk hto hbn h.dn hd hl hm
 have l:∀ j,v.ownBlock=some j->j < w.heap.size:=fun j hj=>by
  obtain⟨a,m,rfl,r⟩:=h.ints
  obtain⟨n,o,q,t,-⟩:=r k (by simpa[Co]using hk)
  subst q
  have:n=j:=by simpa[Value.ownBlock]using hj
  omega
 refine⟨hS,p,hd,Q1 h.fine (Xi (h.fine _) hbf) (by rw[h.wm.low.size];exact hto),h.since.trans hB,by have:=h.ms;omega, ?_,fun j hj => ?_,(hfr.keep bl d h.loff.1 h.loff.2.1 h.loff.2.2).trans h.left,h.loff.1,h.loff.2.1,fun e=>h.loff.2.2 (hfr.own bl e d)⟩
 ·exact h.ints.keep (fun j hj=>hfr.keep j (l j hj) (h.voff j hj).1 (h.voff j hj).2.1 (h.voff j hj).2.2) hB.size
 ·exact⟨(h.voff j hj).1,(h.voff j hj).2.1,fun e=>(h.voff j hj).2.2 (hfr.own j e (l j hj))⟩
end Go.Proofs.YtfjkahdghhbpnaaGreatDoor
