import Derived.Test.YtahibkjkpmdhgaaGreatDoorKVmZb
import Derived.Test.YtahibkjkpmdhgaaGreatDoorKVmQ
import Derived.Shelf.Spec.SlicesGrow
set_option maxRecDepth 100000
set_option maxHeartbeats 4000000
namespace Go.Proofs.YtahibkjkpmdhgaaGreatDoor
open Go.RowKit
theorem Vz (l:List ByteArray) (v:ByteArray):Gs l v=true ↔ ∃ o ∈ l,o.toList=v.toList:=by
 unfold Gs;rw[List.any_eq_true];exact⟨fun ⟨o,h1,h2⟩=>⟨o,h1,(eq_of_beq h2).symm⟩,fun ⟨o,h1,h2⟩=>⟨o,h1,by rw[h2];simp⟩⟩
theorem Vv (m:Ds):On m ↔ (G4 m/\C7 m/\Kg m):=by
 rw[Vy];unfold On G4 Dy;constructor
 ·rintro⟨d,g,⟨-,h⟩,i,j,k,l,n,o,a,b,c⟩;exact⟨⟨fun f hf=>(Vz _ _).2 (o f hf),d,g,h,i,j,k,l⟩,n,a,b,c⟩
 ·rintro⟨⟨o,d,g,h,i,j,k,l⟩,n,a,b,c⟩;exact⟨d,g,⟨by omega,h⟩,i,j,k,l,n,fun f hf=>(Vz _ _).1 (o f hf),a,b,c⟩
theorem Qaj (m:Ds) (ca aa oa fa ia sa:Option Addr) (cc ac oc fc ic sc:Nat) (A:Nat) (hs:H4 m) (hRg:Yh m) (w:World) (hM:Gd A w m ca aa oa fa ia sa cc ac oc fc ic sc) (hT:B3 w) (hW:Cw w):Calls Tryz.prog 8 #[.agg #[.slice ca m.codes.length cc,.slice aa m.args.length ac,.slice oa m.outs.length oc,.slice fa m.frames.length fc,.int .i64 m.steps,.int .i64 m.looks,.int .i64 m.kind,.string m.name,.string m.hold,.bool m.over,.int .i64 m.fin,.string m.text,.slice ia m.files.length ic,.slice sa m.said.length sc]] w (Eh (Gk m) w):=by
 have y:Hid (∀ U,OH w U->Calls Tryz.prog 32 #[.slice ia m.files.length ic,.int .i64 20] U fun e w'=>e = .returned (.bool (G5 m.files 20))/\OH U w'):=fun U hU=>S7 m.files 20 _ U Ou hs.files.1 hs.files.2 ((Jw hM.files rfl).below hU)
 have D:Hid (∀ U,OH w U->Calls Tryz.prog 33 #[.slice sa m.said.length sc] U fun e w'=>e = .returned (.bool (C6 m.said))/\U=w'):=fun U hU=>Sy m.said sa sc hs.said.1 U ((Gm hM.said rfl).below hU)
 have B:Hid (∀ U,Calls Tryz.prog 34 #[.agg #[.slice ca m.codes.length cc,.slice aa m.args.length ac,.slice oa m.outs.length oc,.slice fa m.frames.length fc,.int .i64 m.steps,.int .i64 m.looks,.int .i64 m.kind,.string m.name,.string m.hold,.bool m.over,.int .i64 m.fin,.string m.text,.slice ia m.files.length ic,.slice sa m.said.length sc]] U (Eh (F2 m) U)):=fun U=>Qcx m ca aa oa fa ia sa cc ac oc fc ic sc hs U
 have C:Hid (∀ U,OH w U->Calls Tryz.prog 35 #[.agg #[.slice ca m.codes.length cc,.slice aa m.args.length ac,.slice oa m.outs.length oc,.slice fa m.frames.length fc,.int .i64 m.steps,.int .i64 m.looks,.int .i64 m.kind,.string m.name,.string m.hold,.bool m.over,.int .i64 m.fin,.string m.text,.slice ia m.files.length ic,.slice sa m.said.length sc]] U (Eh (G4 m) U)):=fun U hU=>Qcy m ca aa oa fa ia sa cc ac oc fc ic sc hs U ((Gm hM.args rfl).below hU) ((Gm hM.outs rfl).below hU) ((Jw hM.files rfl).below hU)
 have E:Hid (∀ U,Calls Tryz.prog 36 #[.agg #[.slice ca m.codes.length cc,.slice aa m.args.length ac,.slice oa m.outs.length oc,.slice fa m.frames.length fc,.int .i64 m.steps,.int .i64 m.looks,.int .i64 m.kind,.string m.name,.string m.hold,.bool m.over,.int .i64 m.fin,.string m.text,.slice ia m.files.length ic,.slice sa m.said.length sc]] U (Eh (C7 m) U)):=fun U=>Qcz m ca aa oa fa ia sa cc ac oc fc ic sc hs U
 have z:Hid (∀ U,OH w U->Calls Tryz.prog 37 #[.agg #[.slice ca m.codes.length cc,.slice aa m.args.length ac,.slice oa m.outs.length oc,.slice fa m.frames.length fc,.int .i64 m.steps,.int .i64 m.looks,.int .i64 m.kind,.string m.name,.string m.hold,.bool m.over,.int .i64 m.fin,.string m.text,.slice ia m.files.length ic,.slice sa m.said.length sc]] U (Eh (Kg m) U)):=fun U hU=>V7 m ca aa oa fa ia sa cc ac oc fc ic sc A hs hRg U (hM.frames.below hU) (hM.codes.below hU) (hT.below hU) (hW.below hU)
 have h6:m.said.length<=1048576:=hs.said.1;have u:Hid (On m ↔ (G4 m/\C7 m/\Kg m)):=Vv m;obtain⟨P,Z⟩:∃ P,Hid (Gk m ↔ P):=⟨_,Iff.rfl⟩;rw[show Gk m=P from propext Z.out];have H:Hid (P ↔ (G5 m.files 20=true/\(m.said.length<=50/\C6 m.said=true)/\(0<=m.steps/\m.steps<=4000)/\((m.over=true/\F2 m)\/(m.over=false/\(G4 m/\C7 m/\Kg m))))):=by
  rw[Hid,<- Z.out,<- u.out];exact Iff.rfl
 obtain⟨bf,M⟩:∃ b,Hid (G5 m.files 20=b):=⟨_,(rfl:G5 m.files 20=_)⟩;obtain⟨bt,N⟩:∃ b,Hid (C6 m.said=b):=⟨_,(rfl:C6 m.said=_)⟩;obtain⟨J,O⟩:∃ b,Hid (m.over=b):=⟨_,(rfl:m.over=_)⟩;rw[M.out]at y H;rw[N.out]at D H;rw[O.out]at B C E z H |-
 clear hM hs hRg hT hW u;obtain⟨Y,T⟩:∃ Y,w.alloc (.cells #[.slice ca m.codes.length cc,.slice aa m.args.length ac,.slice oa m.outs.length oc,.slice fa m.frames.length fc,.int .i64 m.steps,.int .i64 m.looks,.int .i64 m.kind,.string m.name,.string m.hold,.bool J,.int .i64 m.fin,.string m.text,.slice ia m.files.length ic,.slice sa m.said.length sc] 34)=Y:=⟨_,rfl⟩;have I:Hid (∀ U,OH Y U->U.heap[w.heap.size]? = some (.cells #[.slice ca m.codes.length cc,.slice aa m.args.length ac,.slice oa m.outs.length oc,.slice fa m.frames.length fc,.int .i64 m.steps,.int .i64 m.looks,.int .i64 m.kind,.string m.name,.string m.hold,.bool J,.int .i64 m.fin,.string m.text,.slice ia m.files.length ic,.slice sa m.said.length sc] 34)):=by
  have h:Y.heap[w.heap.size]? = some (.cells #[.slice ca m.codes.length cc,.slice aa m.args.length ac,.slice oa m.outs.length oc,.slice fa m.frames.length fc,.int .i64 m.steps,.int .i64 m.looks,.int .i64 m.kind,.string m.name,.string m.hold,.bool J,.int .i64 m.fin,.string m.text,.slice ia m.files.length ic,.slice sa m.said.length sc] 34):=by rw[<- T];exact Ae w _
  exact fun U hU=>(hU.block _ (by rw[<- T,World.size_alloc];omega)).trans h
 have p:Hid (OH w Y):=by rw[Hid,<- T];exact Ao w _
 have yM:=I.out Y (Below.refl _ _);obtain⟨bl,-⟩:=Aa yM 12 _ rfl;clear yM;have t0:Cv:=trivial;cases bf <;> cases bt <;> cases J
 all_goals
  go_enter Tryz.func8,Tryz.ntmps8;go_wp2_with (first
   | (go_at_call 32;refine(y.out _ p.out).mono ?_;rintro e V ⟨rfl,i⟩;have v:Hid (OH Y V):=i;have a:Hid (OH w V):=p.out.trans (i.mono p.out.size);have c:=I.out V i;obtain⟨ao,-⟩:=Aa c 0 _ rfl;obtain⟨ap,-⟩:=Aa c 1 _ rfl;obtain⟨aq,-⟩:=Aa c 2 _ rfl;obtain⟨ar,-⟩:=Aa c 3 _ rfl;obtain⟨au,-⟩:=Aa c 4 _ rfl;obtain⟨av,-⟩:=Aa c 5 _ rfl;obtain⟨aw,-⟩:=Aa c 6 _ rfl;obtain⟨ax,-⟩:=Aa c 7 _ rfl;obtain⟨ay,-⟩:=Aa c 8 _ rfl;obtain⟨az,-⟩:=Aa c 9 _ rfl;obtain⟨ab,-⟩:=Aa c 10 _ rfl;obtain⟨ad,-⟩:=Aa c 11 _ rfl;obtain⟨ae,-⟩:=Aa c 12 _ rfl;obtain⟨af,-⟩:=Aa c 13 _ rfl;clear i c)
   | (go_at_call 33;refine(D.out _ a.out).mono ?_;rintro e w3 ⟨rfl,rfl⟩)
   | (go_at_call 34;refine(B.out _).mono ?_;rintro e w4 ⟨b4,rfl,j,F⟩;have K:Hid (b4=true ↔ F2 m):=j;have Q:Hid (OH w w4):=a.out.trans (F.mono a.out.size);clear j F)
   | (go_at_call 35;refine(C.out _ a.out).mono ?_;rintro e W ⟨b5,rfl,k,s⟩;have o:Hid (b5=true ↔ G4 m):=k;have q:Hid (OH w W):=a.out.trans (s.mono a.out.size);have r:Hid (OH Y W):=v.out.trans (s.mono v.out.size);have d:=I.out W r.out;obtain⟨a0,-⟩:=Aa d 0 _ rfl;obtain⟨a1,-⟩:=Aa d 1 _ rfl;obtain⟨a2,-⟩:=Aa d 2 _ rfl;obtain⟨a3,-⟩:=Aa d 3 _ rfl;obtain⟨a4,-⟩:=Aa d 4 _ rfl;obtain⟨a5,-⟩:=Aa d 5 _ rfl;obtain⟨a6,-⟩:=Aa d 6 _ rfl;obtain⟨a7,-⟩:=Aa d 7 _ rfl;obtain⟨a8,-⟩:=Aa d 8 _ rfl;obtain⟨a9,-⟩:=Aa d 9 _ rfl;obtain⟨ag,-⟩:=Aa d 10 _ rfl;obtain⟨ah,-⟩:=Aa d 11 _ rfl;obtain⟨ai,-⟩:=Aa d 12 _ rfl;obtain⟨aj,-⟩:=Aa d 13 _ rfl;clear k s d;cases b5)
   | (go_at_call 36;refine(E.out _).mono ?_;rintro e X ⟨b6,rfl,l,t⟩;have x:Hid (b6=true ↔ C7 m):=l;have g:Hid (OH w X):=q.out.trans (t.mono q.out.size);have S:Hid (OH Y X):=r.out.trans (t.mono r.out.size);have f:=I.out X S.out;obtain⟨ba,-⟩:=Aa f 0 _ rfl;obtain⟨bb,-⟩:=Aa f 1 _ rfl;obtain⟨bc,-⟩:=Aa f 2 _ rfl;obtain⟨bd,-⟩:=Aa f 3 _ rfl;obtain⟨be,-⟩:=Aa f 4 _ rfl;obtain⟨bg,-⟩:=Aa f 5 _ rfl;obtain⟨bh,-⟩:=Aa f 6 _ rfl;obtain⟨bi,-⟩:=Aa f 7 _ rfl;obtain⟨bj,-⟩:=Aa f 8 _ rfl;obtain⟨bk,-⟩:=Aa f 9 _ rfl;obtain⟨ak,-⟩:=Aa f 10 _ rfl;obtain⟨al,-⟩:=Aa f 11 _ rfl;obtain⟨am,-⟩:=Aa f 12 _ rfl;obtain⟨an,-⟩:=Aa f 13 _ rfl;clear l t f;cases b6)
   | (go_at_call 37;refine(z.out _ g.out).mono ?_;rintro e w7 ⟨b7,rfl,n,G⟩;have L:Hid (b7=true ↔ Kg m):=n;have R:Hid (OH w w7):=g.out.trans (G.mono g.out.size);clear n G))
  all_goals
   go_ret;refine⟨_,rfl, ?_,by first|exact R.out|exact g.out|exact q.out|exact Q.out|exact a.out⟩;rw[H.out];first
    | (have e7:=L.out;have e6:=x.out;have e5:=o.out;grind)
    | (have e6:=x.out;have e5:=o.out;grind)
    | (have e5:=o.out;grind)
    | (have e4:=K.out;grind)
    | grind
def Fe : Value->Option (Option Addr × Nat × Nat)
 | .slice a n c=>some (a,n,c)
 | _=>none
structure Av (S:Nat->Prop) (w w':World):Prop where
 os:w'.os=w.os
 tape:w'.tape=w.tape
 output:w'.output=w.output
 size:w.heap.size<=w'.heap.size
 keep:∀ k,k < w.heap.size->¬ S k->w'.heap[k]? = w.heap[k]?
 same:∀ (k:Nat) (cur:Array Value) (e:TypeId) (fr:Nat × Nat),w.heap[k]? = some (.cells cur e fr)->∃ cur',w'.heap[k]? = some (.cells cur' e fr)/\cur'.map Fe=cur.map Fe
theorem Av.refl (S:Nat->Prop) (w:World):Av S w w:=⟨rfl,rfl,rfl,Nat.le_refl _,fun _ _ _=>rfl,fun _ cur _ _ h=>⟨cur,h,rfl⟩⟩
theorem Av.trans {S:Nat->Prop} {a b c:World} (h:Av S a b) (k:Av S b c):Av S a c :=
 ⟨k.os.trans h.os,k.tape.trans h.tape,k.output.trans h.output,Nat.le_trans h.size k.size,fun i hi hs=>(k.keep i (Nat.lt_of_lt_of_le hi h.size) hs).trans (h.keep i hi hs),fun i cur e fr hi=>by
  obtain⟨d,g,j⟩:=h.same i cur e fr hi
  obtain⟨f,l,m⟩:=k.same i d e fr g
  exact⟨f,l,m.trans j⟩⟩
theorem Av.of_below {S:Nat->Prop} {a b:World} (h:OH a b):Av S a b :=
 ⟨h.os,h.tape,h.output,h.size,fun i hi _=>h.block i hi,fun i cur _ _ hi=>⟨cur,(h.block i (Array.getElem?_eq_some_iff.1 hi).1).trans hi,rfl⟩⟩
theorem Av.below {S:Nat->Prop} {B:Nat} {w w':World} (h:Av S w w') (hB:B<=w.heap.size) (hs:∀ k,k < B->¬ S k):Below B w w' :=
 ⟨h.os,h.tape,h.output,h.size,fun k hk=>h.keep k Ou (hs k hk)⟩
def Iv (S:Nat->Prop) (w:World) (p N:Nat) (f:Nat->Option (Option Addr × Nat × Nat)):Prop:=S p/\∃ cur e,w.heap[p]? = some (.cells cur e (0,0))/\∀ i,i < N->(cur.map Fe)[i]? = some (f i)
theorem Iv.tc {S R:Nat->Prop} {w w':World} {p N:Nat} {f:Nat->Option (Option Addr × Nat × Nat)} (h:Iv S w p N f) (t:Av R w w'):Iv S w' p N f:=by
 obtain⟨hs,a,e,g,j⟩:=h;obtain⟨c,b,d⟩:=t.same p a e _ g;exact⟨hs,c,e,b,fun i hi=>by rw[d];exact j i hi⟩
theorem Iv.cell {S:Nat->Prop} {w:World} {p N:Nat} {f:Nat->Option (Option Addr × Nat × Nat)} (h:Iv S w p N f) (i:Nat) (hi:i < N):(∃ y,w.cell? (OI p i)=some y)/\w.frozen? (OI p i)=false:=by
 obtain⟨hs,b,e,a,c⟩:=h;have:=c i hi;rw[Array.getElem?_map]at this;obtain⟨y,d,-⟩:=Option.map_eq_some_iff.1 this;exact⟨⟨y,(Lib.cell_of_heap a i).trans d⟩,by simp[World.frozen?,a]⟩
theorem Iv.at {S:Nat->Prop} {w:World} {p N:Nat} {f:Nat->Option (Option Addr × Nat × Nat)} (h:Iv S w p N f) (i:Nat) (hi:i < N) {a:Option Addr} {n c:Nat} (e:f i=some (a,n,c)):w.cell? (OI p i)=some (.slice a n c):=by
 obtain⟨hs,d,t,g,j⟩:=h;have:=j i hi;rw[Array.getElem?_map,e]at this;obtain⟨y,k,b⟩:=Option.map_eq_some_iff.1 this;rw[Lib.cell_of_heap g i,k];cases y <;> simp[Fe]at b
 obtain⟨rfl,rfl,rfl⟩:=b;rfl
theorem Iv.set {S:Nat->Prop} {w:World} {p N:Nat} {f:Nat->Option (Option Addr × Nat × Nat)} (h:Iv S w p N f) (i:Nat) (hi:i < N) (hn:f i=none) (v:Value) (hv:Fe v=none):Av S w (w.setCell (OI p i) v):=by
 obtain⟨hs,a,t,g,l⟩:=h;refine⟨rfl,rfl,rfl,by simp[World.setCell],fun k _ hk=>Below.heap_setCell _ _ _ _ (fun e=>hk (by rw[e];exact hs)),fun k c e fr h => ?_⟩;by_cases hkg:k=p
 ·subst hkg;rw[g]at h;injection h with h;injection h with h1 h2 h3
  subst h1 h2 h3;refine⟨a.setIfInBounds i v,by simp[World.setCell,Array.getElem?_modify,g], ?_⟩;refine Array.ext_getElem? fun j => ?_
  by_cases e:j=i
  ·subst e;have b:=l j hi;have d:j < a.size:=by
    rcases Nat.lt_or_ge j a.size with h|h
    ·exact h
    ·rw[Array.getElem?_eq_none (by rw[Array.size_map];exact h)]at b;cases b
   rw[b,hn,Array.getElem?_map,Array.getElem?_setIfInBounds,if_pos rfl,if_pos d,Option.map_some,hv]
  ·rw[Array.getElem?_map,Array.getElem?_map,Array.getElem?_setIfInBounds,if_neg (Ne.symm e)]
 ·exact⟨c,(Below.heap_setCell _ _ _ _ (by exact hkg)).trans h,rfl⟩
def C5 (S:Nat->Prop) (w:World) (a:Option Addr) (N:Nat):Prop:=0 < N->∃ p,a=some (OI p 0)/\Iv S w p N (fun _=>none)
theorem C5.tc {S R:Nat->Prop} {w w':World} {a:Option Addr} {N:Nat} (h:C5 S w a N) (t:Av R w w'):C5 S w' a N:=fun h0=>by
 obtain⟨p,e,b⟩:=h h0
 exact⟨p,e,b.tc t⟩
theorem C5.own {S:Nat->Prop} {A e size n:Nat} {w:World} {a:Option Addr} {c:Nat} {xs:List Value} (h:w.ownsRow A e size (.slice a n c) n xs) (hS:∀ k,A<=k->k < w.heap.size->S k) (hx:∀ x ∈ xs,Fe x=none):C5 S w a (n * size):=fun h0=>by
 rcases h.2 with⟨-,rfl⟩|⟨g,p,b,d,r,m,-,-,-,f⟩
 ·simp at h0
 ·injection d with d _ _
  subst d
  refine⟨g,rfl,hS g r (Array.getElem?_eq_some_iff.1 m).1,b,e,m,fun i hi => ?_⟩
  have o:i < xs.length:=by rw[h.1];exact hi
  have q:b.toList[i]? = some xs[i]:=by
   have j:=congrArg (fun l=>l[i]?) f;simp only[List.getElem?_take_of_lt hi,List.getElem?_eq_getElem o]at j;exact j
  rw[Array.getElem?_map,<- Array.getElem?_toList,q,Option.map_some,hx _ (List.getElem_mem o)]
theorem Jn {w:World} {g i j:Nat} {v:Value} (h:i≠j):(w.setCell (OI g i) v).cell? (OI g j)=w.cell? (OI g j):=by
 cases hb:w.heap[g]? with
 | none=>simp[World.cell?,World.setCell,Array.getElem?_modify,hb]
 | some o=>cases o <;> simp[World.cell?,World.setCell,Array.getElem?_modify,hb,h]
theorem Pt {w:World} {g i:Nat} {v y:Value} (h:w.cell? (OI g i)=some y):(w.setCell (OI g i) v).cell? (OI g i)=some v:=by
 cases hb:w.heap[g]? with
 | none=>simp[World.cell?,hb]at h
 | some o =>
  cases o with
  | cells cur e fr =>
   have a:i < cur.size:=by
    rw[Lib.cell_of_heap hb]at h;exact(Array.getElem?_eq_some_iff.1 h).1
   simp[World.cell?,World.setCell,Array.getElem?_modify,hb,a]
  | _=>simp[World.cell?,hb]at h
def Il : Nat->Int->ByteArray->ByteArray
 | 0,_,out=>out
 | f+1,k,out=>if 0 < k then Il f (k / 10) (⟨#[UInt8.ofNat (48+k % 10).toNat]⟩++out) else out
def Cu (k:Int):ByteArray:=⟨#[109]⟩++Il (k.toNat+1) k ⟨#[]⟩
theorem Qcc (f:Nat) (k:Int) (out:ByteArray) (h:0 < k):Il (f+1) k out=Il f (k / 10) (⟨#[UInt8.ofNat (48+k % 10).toNat]⟩++out):=by rw[Il,if_pos h]
theorem Z3 (f:Nat) (k:Int) (out:ByteArray) (h:¬ 0 < k):Il f k out=out:=by
 cases f with
 | zero=>rfl
 | succ f=>rw[Il,if_neg h]
theorem Qcp (x:UInt8):(⟨#[x]⟩:ByteArray).size=1:=rfl
theorem Z1 (x:Int) (h0:0<=x) (h1:x<=255):((UInt8.ofNat x.toNat).toNat:Int)=x:=by
 rw[UInt8.toNat_ofNat'];omega
theorem Qcb (w:World) (x:Int) (h0:0<=x) (h1:x<=255) :
  Sem.run Tryz.prog (convert 159 9 (.slice (some (OK w 0)) 1 1)) (w.alloc (.cells #[.int .u8 x] 5)) = .ok (.string ⟨#[UInt8.ofNat x.toNat]⟩) (w.alloc (.cells #[.int .u8 x] 5)):=by
 refine run_convert_bytes_back (P:=Tryz.prog) (w.alloc (.cells #[.int .u8 x] 5)) 159 9 5 (OK w 0) 1 [UInt8.ofNat x.toNat] Tryz.underlying159 Tryz.underlying5 Tryz.underlying9 ?_;intro j b;have a:j=0:=by simp at b;omega
 subst a;simp only[List.getElem_cons_zero,Z1 x h0 h1];rw[World.cell?,show (((OK w 0):Addr).add 0).block=w.heap.size from rfl,(MapKept.heap_alloc w _).1];rfl
theorem Qd2 {a b:Value} (h:a=b):(Ending.returned a:Ending) = .returned b:=by rw[h]
theorem D8 (k:Int) (w:World) (h1:1<=k) (h2:k<=9000000000000000000) :
  Calls Tryz.prog 79 #[.int .i64 k] w fun e w'=>e = .returned (.string (Cu k))/\OH w w':=by
 go_enter Tryz.func79,Tryz.ntmps79;go_wp2;go_loopw [0,3] (fun t v wr => ∃ (j:Int) (f:Nat) (a:ByteArray),0<=j/\j<=k/\j < f/\(a.size:Int)<=k - j/\t = .int .i64 j/\v = .string a/\Il f j a=Il (k.toNat+1) k ⟨#[]⟩/\OH w wr) (fun t _ _=>(intOf t).toNat);case atStart=>exact⟨k,k.toNat+1,⟨#[]⟩,by omega,by omega,by omega,by simp[ByteArray.size],rfl,rfl,rfl,Below.refl _ _⟩
 case round =>
  obtain⟨j,f,a,i,l,m,n,rfl,rfl,b,d⟩:=hrel;by_cases hp:0 < j
  ·obtain⟨f,rfl⟩:∃ f',f=f'+1:=⟨f - 1,by omega⟩;have c:Hid (Il f (j / 10) (⟨#[UInt8.ofNat (48+j % 10).toNat]⟩++a)=Il (k.toNat+1) k ⟨#[]⟩):=(by rw[Qcc _ _ _ hp]at b;exact b);clear b;have h:=Qcb wr (48+j % 10) Ou Ou;go_wp2;go_roundw;case rel=>exact⟨j / 10,f,_,by omega,by omega,by omega,by rw[ByteArray.size_append,Qcp];omega,rfl,rfl,c.out,d.alloc d.size _⟩
   case measure=>simp[intOf];omega
  ·have c:Hid (a=Il (k.toNat+1) k ⟨#[]⟩):=(by rw[Z3 _ _ _ hp]at b;exact b);clear b;have g:Hid (Value.string (⟨#[109]⟩++a) = .string (Cu k)):=(by rw[Hid,Cu,<- c.out]);go_wp2;go_ret;exact⟨Qd2 g.out,d⟩
theorem Qcl {S:Nat->Prop} (a:Option Addr) (n cap:Nat) (k:Int) (h1:1<=k) (h2:k<=8000000000000000000) (hl:n<=1048576) (w:World) (hr:C5 S w a (n)) :
  Calls Tryz.prog 106 #[.slice a n cap,.int .i64 k] w fun e w'=>e = .returned (.int .i64 (k+(n:Int)))/\Av S w w':=by
 have o:Hid (C5 S w a (n)):=hr;clear hr;go_enter Tryz.func106,Tryz.ntmps106;go_wp2_with fail;go_loopw [1,5] (fun q t wr => ∃ (i:Nat),i<=n/\t = .int .i64 (i:Int)/\q = .int .i64 (k+(i:Int))/\Av S w wr) (fun _ t _=>n - (intOf t).toNat);case atStart=>exact⟨0,by omega,rfl,by simp,Av.refl _ _⟩
 case round =>
  obtain⟨i,v,rfl,rfl,b⟩:=hrel;by_cases hlt:i < n
  ·have c:(i:Int) < (n:Int):=Ou;obtain⟨K,f⟩:∃ K,Hid (k+(i:Int)=K):=⟨_,(rfl:_=_)⟩;have u:1<=K/\K<=8000000000006000000:=(by have:=f.out;omega);rw[f.out];obtain⟨p,l,d⟩:=o.out Ou;subst l;have m:Hid (∀ U,Av S w U->Iv S U p (n) (fun _=>none)):=fun U h=>d.tc h
   clear d;have d:=m.out wr b;obtain⟨⟨y,x⟩,s⟩:=d.cell (i) Ou;have g:Hid (∀ v0,Fe v0=none->Av S w (wr.setCell (OI p i) v0)):=fun v0 h0=>by
    have r:=b.trans ((m.out _ b).set (i) Ou rfl v0 h0);exact r
   clear d b;go_wp2_with fail;go_roundw;case rel =>
    refine⟨i+1,by omega,by go_num, ?_,(g.out _ rfl)⟩;rw[show k+((i+1:Nat):Int)=K+1 by have:=f.out;omega]
   case measure=>simp[intOf];omega
  ·have c:¬ (i:Int) < (n:Int):=Ou;have j:i=n:=Ou;subst j;go_wp2_with fail;go_ret;exact⟨rfl,b⟩
theorem Je {S:Nat->Prop} (a:Option Addr) (n cap:Nat) (k:Int) (h1:1<=k) (h2:k<=8000000000000000000) (hl:n<=1048576) (w:World) (hr:C5 S w a (n)) :
  Calls Tryz.prog 45 #[.slice a n cap,.int .i64 k] w fun e w'=>e = .returned (.int .i64 (k+(n:Int)))/\Av S w w'/\∀ i,i < n->∃ p,a=some (OI p 0)/\w'.cell? (OI p i)=some (.string (Cu (k+(i:Int)))):=by
 have D:Hid (C5 S w a (n)):=hr;clear hr;go_enter Tryz.func45,Tryz.ntmps45;go_wp2_with fail;go_loopw [1,5] (fun q t wr => ∃ (i:Nat),i<=n/\t = .int .i64 (i:Int)/\q = .int .i64 (k+(i:Int))/\Av S w wr/\Hid (∀ j,j < i->∃ p,a=some (OI p 0)/\wr.cell? (OI p j)=some (.string (Cu (k+(j:Int)))))) (fun _ t _=>n - (intOf t).toNat);case atStart=>exact⟨0,by omega,rfl,by simp,Av.refl _ _,fun j h=>Ou⟩
 case round =>
  obtain⟨i,J,rfl,rfl,c,x⟩:=hrel;by_cases hlt:i < n
  ·have l:(i:Int) < (n:Int):=Ou;obtain⟨K,o⟩:∃ K,Hid (k+(i:Int)=K):=⟨_,(rfl:_=_)⟩;have I:1<=K/\K<=8000000000006000000:=(by have:=o.out;omega);rw[o.out];obtain⟨p,z,B⟩:=D.out Ou;subst z;have A:Hid (∀ U,Av S w U->Iv S U p (n) (fun _=>none)):=fun U h=>B.tc h
   clear B;have r:Hid (p < wr.heap.size/\∀ j,j < i->wr.cell? (OI p j)=some (.string (Cu (k+(j:Int))))):=⟨by obtain⟨-,E,e,F,-⟩:=A.out wr c;exact(Array.getElem?_eq_some_iff.1 F).1,fun j hj=>by
    obtain⟨M,e,h⟩:=x.out j hj
    injection e with e;injection e with e
    subst e;exact h⟩
   clear x;have s:Hid (Av S w wr):=c;clear c;have C:Cv:=trivial;go_wp2_with (have _t:=C;go_at_call 79;refine(D8 _ _ Ou Ou).mono ?_;rintro e m ⟨rfl,b⟩;have f:Av S w m:=s.out.trans (Av.of_below b);have d:=A.out _ f;obtain⟨⟨N,G⟩,H⟩:=d.cell (i) Ou;have u:Hid (∀ v,Fe v=none->Av S w (m.setCell (OI p i) v)):=(fun v hv=>f.trans (d.set _ Ou rfl v hv));have g:Hid (p < m.heap.size/\∀ v,(∀ j,j < i->(m.setCell (OI p i) v).cell? (OI p j)=some (.string (Cu (k+(j:Int)))))/\(m.setCell (OI p i) v).cell? (OI p i)=some v):=⟨Nat.lt_of_lt_of_le r.out.1 b.size,fun v=>⟨fun j hj=>by rw[Jn Ou,b.cell (p:=(OI p j)) r.out.1];exact(r.out.2 j hj),Pt G⟩⟩;clear f d b C;have L:Cv:=trivial);go_roundw;case rel =>
    refine⟨i+1,by omega,by go_num, ?_,u.out _ rfl,fun j hj=>by
     by_cases e:j=i
     ·subst e;rw[o.out];exact⟨p,rfl,(g.out.2 _).2⟩
     ·exact⟨p,rfl,(g.out.2 _).1 j Ou⟩⟩
    rw[show k+((i+1:Nat):Int)=K+1 by have:=o.out;omega]
   case measure=>simp[intOf];omega
  ·have l:¬ (i:Int) < (n:Int):=Ou;have y:i=n:=Ou;subst y;go_wp2_with fail;go_ret;exact⟨rfl,c,x.out⟩
theorem Pg {S:Nat->Prop} (a:Option Addr) (n cap:Nat) (k:Int) (h1:1<=k) (h2:k<=8000000000000000000) (hl:n<=1048576) (w:World) (hr:C5 S w a (n * 3)) :
  Calls Tryz.prog 80 #[.slice a n cap,.int .i64 k] w fun e w'=>e = .returned (.int .i64 (k+3 * (n:Int)))/\Av S w w':=by
 have A:Hid (C5 S w a (n * 3)):=hr;clear hr;go_enter Tryz.func80,Tryz.ntmps80;go_wp2_with fail;go_loopw [1,5] (fun q t wr => ∃ (i:Nat),i<=n/\t = .int .i64 (i:Int)/\q = .int .i64 (k+3 * (i:Int))/\Av S w wr) (fun _ t _=>n - (intOf t).toNat);case atStart=>exact⟨0,by omega,rfl,by simp,Av.refl _ _⟩
 case round =>
  obtain⟨i,G,rfl,rfl,b⟩:=hrel;by_cases hlt:i < n
  ·have j:(i:Int) < (n:Int):=Ou;obtain⟨K,m⟩:∃ K,Hid (k+3 * (i:Int)=K):=⟨_,(rfl:_=_)⟩;have F:1<=K/\K<=8000000000006000000:=(by have:=m.out;omega);rw[m.out];obtain⟨p,u,f⟩:=A.out Ou;subst u;have l:Hid (∀ U,Av S w U->Iv S U p (n * 3) (fun _=>none)):=fun U h=>f.tc h
   clear f;have f:=l.out wr b;obtain⟨⟨M,H⟩,C⟩:=f.cell (i * 3) Ou;obtain⟨⟨N,I⟩,D⟩:=f.cell (i * 3+1) Ou;have o:Hid (∀ v0 v1,Fe v0=none->Fe v1=none->Av S w ((wr.setCell (OI p (i * 3)) v0).setCell (OI p (i * 3+1)) v1)):=fun v0 v1 h0 h1=>by
    have y:=b.trans ((l.out _ b).set (i * 3) Ou rfl v0 h0);have B:=y.trans ((l.out _ y).set (i * 3+1) Ou rfl v1 h1);exact B
   clear f b;have x:Cv:=trivial;go_wp2_with (have _t:=x;go_at_call 79;refine(D8 _ _ Ou Ou).mono ?_;rintro e z ⟨rfl,g⟩;have d:Av S w z:=(o.out _ _ rfl rfl).trans (Av.of_below g);have c:=l.out _ d;obtain⟨⟨O,J⟩,E⟩:=c.cell (i * 3+2) Ou;have r:Hid (∀ v,Fe v=none->Av S w (z.setCell (OI p (i * 3+2)) v)):=(fun v hv=>d.trans (c.set _ Ou rfl v hv));clear d c g x;have L:Cv:=trivial);go_roundw;case rel =>
    refine⟨i+1,by omega,by go_num, ?_,r.out _ rfl⟩;rw[show k+3 * ((i+1:Nat):Int)=K+1+1+1 by have:=m.out;omega]
   case measure=>simp[intOf];omega
  ·have j:¬ (i:Int) < (n:Int):=Ou;have s:i=n:=Ou;subst s;go_wp2_with fail;go_ret;exact⟨rfl,b⟩
theorem Qck {S:Nat->Prop} (a:Option Addr) (n cap:Nat) (k:Int) (h1:1<=k) (h2:k<=8000000000000000000) (hl:n<=1048576) (w:World) (hr:C5 S w a (n * 4)) :
  Calls Tryz.prog 107 #[.slice a n cap,.int .i64 k] w fun e w'=>e = .returned (.int .i64 (k+4 * (n:Int)))/\Av S w w':=by
 have B:Hid (C5 S w a (n * 4)):=hr;clear hr;go_enter Tryz.func107,Tryz.ntmps107;go_wp2_with fail;go_loopw [1,5] (fun q t wr => ∃ (i:Nat),i<=n/\t = .int .i64 (i:Int)/\q = .int .i64 (k+4 * (i:Int))/\Av S w wr) (fun _ t _=>n - (intOf t).toNat);case atStart=>exact⟨0,by omega,rfl,by simp,Av.refl _ _⟩
 case round =>
  obtain⟨i,I,rfl,rfl,b⟩:=hrel;by_cases hlt:i < n
  ·have l:(i:Int) < (n:Int):=Ou;obtain⟨K,m⟩:∃ K,Hid (k+4 * (i:Int)=K):=⟨_,(rfl:_=_)⟩;have H:1<=K/\K<=8000000000006000000:=(by have:=m.out;omega);rw[m.out];obtain⟨p,u,c⟩:=B.out Ou;subst u;have g:Hid (∀ U,Av S w U->Iv S U p (n * 4) (fun _=>none)):=fun U h=>c.tc h
   clear c;have c:=g.out wr b;obtain⟨⟨P,J⟩,D⟩:=c.cell (i * 4) Ou;obtain⟨⟨Q,L⟩,E⟩:=c.cell (i * 4+1) Ou;obtain⟨⟨R,M⟩,F⟩:=c.cell (i * 4+2) Ou;have o:Hid (∀ v0 v1 v2,Fe v0=none->Fe v1=none->Fe v2=none->Av S w (((wr.setCell (OI p (i * 4)) v0).setCell (OI p (i * 4+1)) v1).setCell (OI p (i * 4+2)) v2)):=fun v0 v1 v2 h0 h1 h2=>by
    have y:=b.trans ((g.out _ b).set (i * 4) Ou rfl v0 h0);have z:=y.trans ((g.out _ y).set (i * 4+1) Ou rfl v1 h1);have C:=z.trans ((g.out _ z).set (i * 4+2) Ou rfl v2 h2);exact C
   clear c b;have x:Cv:=trivial;go_wp2_with (have _t:=x;go_at_call 79;refine(D8 _ _ Ou Ou).mono ?_;rintro e A ⟨rfl,j⟩;have f:Av S w A:=(o.out _ _ _ rfl rfl rfl).trans (Av.of_below j);have d:=g.out _ f;obtain⟨⟨T,N⟩,G⟩:=d.cell (i * 4+3) Ou;have r:Hid (∀ v,Fe v=none->Av S w (A.setCell (OI p (i * 4+3)) v)):=(fun v hv=>f.trans (d.set _ Ou rfl v hv));clear f d j x;have O:Cv:=trivial);go_roundw;case rel =>
    refine⟨i+1,by omega,by go_num, ?_,r.out _ rfl⟩;rw[show k+4 * ((i+1:Nat):Int)=K+1+1+1+1 by have:=m.out;omega]
   case measure=>simp[intOf];omega
  ·have l:¬ (i:Int) < (n:Int):=Ou;have s:i=n:=Ou;subst s;go_wp2_with fail;go_ret;exact⟨rfl,b⟩
theorem Qn {S:Nat->Prop} (a:Option Addr) (n cap:Nat) (k:Int) (h1:1<=k) (h2:k<=8000000000000000000) (hl:n<=1048576) (w:World) (hr:C5 S w a (n * 2)) :
  Calls Tryz.prog 47 #[.slice a n cap,.int .i64 k] w fun e w'=>e = .returned (.int .i64 (k+2 * (n:Int)))/\Av S w w'/\∀ i,i < n->∃ p,a=some (OI p 0)/\w'.cell? (OI p (i * 2))=some (.string (Cu (k+2 * (i:Int))))/\w'.cell? (OI p (i * 2+1))=some (.string (Cu (k+2 * (i:Int)+1))):=by
 have H:Hid (C5 S w a (n * 2)):=hr;clear hr;go_enter Tryz.func47,Tryz.ntmps47;go_wp2_with fail;go_loopw [1,5] (fun q t wr => ∃ (i:Nat),i<=n/\t = .int .i64 (i:Int)/\q = .int .i64 (k+2 * (i:Int))/\Av S w wr/\Hid (∀ j,j < i->∃ p,a=some (OI p 0)/\wr.cell? (OI p (j * 2))=some (.string (Cu (k+2 * (j:Int))))/\wr.cell? (OI p (j * 2+1))=some (.string (Cu (k+2 * (j:Int)+1))))) (fun _ t _=>n - (intOf t).toNat);case atStart=>exact⟨0,by omega,rfl,by simp,Av.refl _ _,fun j h=>Ou⟩
 case round =>
  obtain⟨i,Q,rfl,rfl,g,B⟩:=hrel;by_cases hlt:i < n
  ·have s:(i:Int) < (n:Int):=Ou;obtain⟨K,u⟩:∃ K,Hid (k+2 * (i:Int)=K):=⟨_,(rfl:_=_)⟩;have P:1<=K/\K<=8000000000006000000:=(by have:=u.out;omega);rw[u.out];obtain⟨p,D,E⟩:=H.out Ou;subst D;have x:Hid (∀ U,Av S w U->Iv S U p (n * 2) (fun _=>none)):=fun U h=>E.tc h
   clear E;have o:Hid (p < wr.heap.size/\∀ j,j < i->wr.cell? (OI p (j * 2))=some (.string (Cu (k+2 * (j:Int))))/\wr.cell? (OI p (j * 2+1))=some (.string (Cu (k+2 * (j:Int)+1)))):=⟨by obtain⟨-,I,e,J,-⟩:=x.out wr g;exact(Array.getElem?_eq_some_iff.1 J).1,fun j hj=>by
    obtain⟨T,e,h⟩:=B.out j hj
    injection e with e;injection e with e
    subst e;exact h⟩
   clear B;have y:Hid (Av S w wr):=g;clear g;have F:Cv:=trivial;go_wp2_with (first
    | (have _t:=F;go_at_call 79;refine(D8 _ _ Ou Ou).mono ?_;rintro e l ⟨rfl,b⟩;have d:Av S w l:=y.out.trans (Av.of_below b);have c:=x.out _ d;obtain⟨⟨V,L⟩,N⟩:=c.cell (i * 2) Ou;have z:Hid (∀ v,Fe v=none->Av S w (l.setCell (OI p (i * 2)) v)):=(fun v hv=>d.trans (c.set _ Ou rfl v hv));have f:Hid (p < l.heap.size/\∀ v,(∀ j,j < i->(l.setCell (OI p (i * 2)) v).cell? (OI p (j * 2))=some (.string (Cu (k+2 * (j:Int))))/\(l.setCell (OI p (i * 2)) v).cell? (OI p (j * 2+1))=some (.string (Cu (k+2 * (j:Int)+1))))/\(l.setCell (OI p (i * 2)) v).cell? (OI p (i * 2))=some v):=⟨Nat.lt_of_lt_of_le o.out.1 b.size,fun v=>⟨fun j hj=>⟨by rw[Jn Ou,b.cell (p:=(OI p (j * 2))) o.out.1];exact(o.out.2 j hj).1,by rw[Jn Ou,b.cell (p:=(OI p (j * 2+1))) o.out.1];exact(o.out.2 j hj).2⟩,Pt L⟩⟩;clear d c b F;have G:Cv:=trivial)
    | (have _t:=G;go_at_call 79;refine(D8 _ _ Ou Ou).mono ?_;rintro e m ⟨rfl,b⟩;have d:Av S w m:=(z.out _ rfl).trans (Av.of_below b);have c:=x.out _ d;obtain⟨⟨W,M⟩,O⟩:=c.cell (i * 2+1) Ou;have A:Hid (∀ v,Fe v=none->Av S w (m.setCell (OI p (i * 2+1)) v)):=(fun v hv=>d.trans (c.set _ Ou rfl v hv));have r:Hid (∀ v,(∀ j,j < i->(m.setCell (OI p (i * 2+1)) v).cell? (OI p (j * 2))=some (.string (Cu (k+2 * (j:Int))))/\(m.setCell (OI p (i * 2+1)) v).cell? (OI p (j * 2+1))=some (.string (Cu (k+2 * (j:Int)+1))))/\(m.setCell (OI p (i * 2+1)) v).cell? (OI p (i * 2))=some (.string (Cu K))/\(m.setCell (OI p (i * 2+1)) v).cell? (OI p (i * 2+1))=some v):=(fun v=>⟨fun j hj=>⟨by rw[Jn Ou,b.cell (p:=(OI p (j * 2))) (by simpa using f.out.1)];exact((f.out.2 _).1 j hj).1,by rw[Jn Ou,b.cell (p:=(OI p (j * 2+1))) (by simpa using f.out.1)];exact((f.out.2 _).1 j hj).2⟩,by rw[Jn Ou,b.cell (p:=(OI p (i * 2))) (by simpa using f.out.1)];exact(f.out.2 _).2,Pt M⟩);clear d c b G;have R:Cv:=trivial))
   go_roundw;case rel =>
    refine⟨i+1,by omega,by go_num, ?_,A.out _ rfl,fun j hj=>by
     by_cases e:j=i
     ·subst e;rw[u.out];exact⟨p,rfl,(r.out _).2⟩
     ·exact⟨p,rfl,(r.out _).1 j Ou⟩⟩
    rw[show k+2 * ((i+1:Nat):Int)=K+1+1 by have:=u.out;omega]
   case measure=>simp[intOf];omega
  ·have s:¬ (i:Int) < (n:Int):=Ou;have C:i=n:=Ou;subst C;go_wp2_with fail;go_ret;exact⟨rfl,g,B.out⟩
def N6 (S:Nat->Prop) (w:World) (a:Option Addr) (n:Nat):Prop:=0 < n->∃ p f,a=some (OI p 0)/\Iv S w p (n * 5) f/\∀ i,i < n->(f (i * 5)=none/\f (i * 5+2)=none/\f (i * 5+3)=none)/\(∃ a1 n1 c1,f (i * 5+1)=some (a1,n1,c1)/\n1<=1048576/\C5 S w a1 n1)/\∃ a1 n1 c1,f (i * 5+4)=some (a1,n1,c1)/\n1<=1048576/\C5 S w a1 (n1 * 4)
def Ms (S:Nat->Prop) (w:World) (a:Option Addr) (n:Nat):Prop := ∀ i,i < n->∃ p a1 n1 c1,a=some (OI p 0)/\w.cell? (OI p i)=some (.slice a1 n1 c1)/\n1<=1048576/\N6 S w a1 n1
def Mu (S:Nat->Prop) (w:World) (a:Option Addr) (n:Nat):Prop:=0 < n->∃ p f,a=some (OI p 0)/\Iv S w p (n * 5) f/\∀ i,i < n->(f (i * 5)=none/\f (i * 5+1)=none/\f (i * 5+2)=none)/\(∃ a1 n1 c1,f (i * 5+3)=some (a1,n1,c1)/\n1<=1048576/\C5 S w a1 (n1 * 3))/\∃ a1 n1 c1,f (i * 5+4)=some (a1,n1,c1)/\n1<=1048576/\C5 S w a1 (n1 * 3)
theorem N6.tc {S:Nat->Prop} {w w':World} {a:Option Addr} {n:Nat} (h:N6 S w a n) (t:Av S w w'):N6 S w' a n:=fun h0=>by
 obtain⟨p,f,e,u,s⟩:=h h0
 refine⟨p,f,e,u.tc t,fun i hi => ?_⟩
 obtain⟨j,⟨b,v,d,k,l,m⟩,⟨c,x,g,o,q,r⟩⟩:=s i hi
 exact⟨j,⟨b,v,d,k,l,m.tc t⟩,c,x,g,o,q,r.tc t⟩
theorem Mu.tc {S:Nat->Prop} {w w':World} {a:Option Addr} {n:Nat} (h:Mu S w a n) (t:Av S w w'):Mu S w' a n:=fun h0=>by
 obtain⟨p,f,e,u,s⟩:=h h0
 refine⟨p,f,e,u.tc t,fun i hi => ?_⟩
 obtain⟨j,⟨b,v,d,k,l,m⟩,⟨c,x,g,o,q,r⟩⟩:=s i hi
 exact⟨j,⟨b,v,d,k,l,m.tc t⟩,c,x,g,o,q,r.tc t⟩
theorem Av.slice {S:Nat->Prop} {w w':World} (t:Av S w w') {p i n c:Nat} {a:Option Addr} (h:w.cell? (OI p i)=some (.slice a n c)):w'.cell? (OI p i)=some (.slice a n c):=by
 cases hb:w.heap[p]? with
 | none=>simp[World.cell?,hb]at h
 | some o =>
  cases o with
  | cells cur e fr =>
   obtain⟨d,f,g⟩:=t.same p cur e fr hb;rw[Lib.cell_of_heap hb]at h;have b:(d.map Fe)[i]? = (cur.map Fe)[i]?:=(by rw[g]);rw[Array.getElem?_map,Array.getElem?_map,h]at b;obtain⟨y,j,hs⟩:=Option.map_eq_some_iff.1 b;rw[Lib.cell_of_heap f,j];cases y <;> simp[Fe]at hs
   obtain⟨rfl,rfl,rfl⟩:=hs;rfl
  | _=>simp[World.cell?,hb]at h
theorem Ms.tc {S:Nat->Prop} {w w':World} {a:Option Addr} {n:Nat} (h:Ms S w a n) (t:Av S w w'):Ms S w' a n:=fun i hi=>by
 obtain⟨p,b,k,c,d,f,g,j⟩:=h i hi
 exact⟨p,b,k,c,d,t.slice f,g,j.tc t⟩
def Qga (S:Nat->Prop) (w:World) (k b:Int) (e:Ending) (w':World):Prop := ∃ k':Int,e = .returned (.int .i64 k')/\(k<=k'/\k'<=k+b)/\Av S w w'
theorem Qd1 {S:Nat->Prop} (a:Option Addr) (n cap:Nat) (k:Int) (h1:1<=k) (h2:k<=7000000000000000000) (hl:n<=1048576) (w:World) (hr:N6 S w a n) :
  Calls Tryz.prog 78 #[.slice a n cap,.int .i64 k] w (Qga S w k (6300000 * (n:Int))):=by
 have Z:Hid (N6 S w a n):=hr;clear hr;go_enter Tryz.func78,Tryz.ntmps78;go_wp2_with fail;go_loopw [1,5] (fun q t wr => ∃ (i:Nat) (K:Int),i<=n/\t = .int .i64 (i:Int)/\q = .int .i64 K/\(k<=K/\K<=k+6300000 * (i:Int))/\Av S w wr) (fun _ t _=>n - (intOf t).toNat);case atStart=>exact⟨0,k,by omega,rfl,rfl,by omega,Av.refl _ _⟩
 case round =>
  obtain⟨i,K,hi,rfl,rfl,hK,m⟩:=hrel;by_cases hlt:i < n
  ·have y:(i:Int) < (n:Int):=Ou;obtain⟨p,f,J,z,T⟩:=Z.out Ou;subst J;obtain⟨A,⟨G,L,O,Q,l1,u⟩,⟨H,M,P,R,l2,x⟩⟩:=T i hlt;have N:Hid (∀ U,Av S w U->Iv S U p (n * 5) f):=fun U h=>z.tc h
   have C:Hid (∀ U,Av S w U->C5 S U G (L)):=fun U h=>u.tc h
   have D:Hid (∀ U,Av S w U->C5 S U H (M * 4)):=fun U h=>x.tc h
   have B:Hid (f (i * 5)=none/\f (i * 5+2)=none/\f (i * 5+3)=none):=A;have X:Hid (f (i * 5+1)=some (G,L,O)):=Q;have Y:Hid (f (i * 5+4)=some (H,M,P)):=R;have E:Hid (Av S w wr):=m;clear z T A Q R u x;clear m;go_wp2_with (first
    | (go_at_call 79;refine(D8 _ _ Ou Ou).mono ?_;rintro e V ⟨rfl,s⟩;have j:Av S w V:=E.out.trans (Av.of_below s);have c:=N.out _ j;obtain⟨⟨y0,k0⟩,f0⟩:=c.cell (i * 5) Ou;have d1:=c.at (i * 5+1) Ou X.out;have o:Hid (∀ v,Fe v=none->Av S w (V.setCell (OI p (i * 5)) v)):=(fun v hv=>j.trans (c.set _ Ou B.out.1 v hv));clear j c s)
    | (go_at_call 106;refine(Qcl G L O _ Ou Ou l1 _ (C.out _ (o.out _ rfl))).mono ?_;rintro e W ⟨rfl,d⟩;have l:Av S w W:=(o.out _ rfl).trans d;have b:=N.out _ l;obtain⟨⟨y2,k2⟩,f2⟩:=b.cell (i * 5+2) Ou;obtain⟨⟨y3,k3⟩,f3⟩:=b.cell (i * 5+3) Ou;have d4:=b.at (i * 5+4) Ou Y.out;have r:Hid (∀ v0 v1,Fe v0=none->Fe v1=none->Av S w ((W.setCell (OI p (i * 5+2)) v0).setCell (OI p (i * 5+3)) v1)):=(fun v0 v1 g0 g1=>(l.trans (b.set _ Ou B.out.2.1 v0 g0)).trans ((b.tc (b.set _ Ou B.out.2.1 v0 g0)).set _ Ou B.out.2.2 v1 g1));clear l b d)
    | (go_at_call 107;refine(Qck H M P _ Ou Ou l2 _ (D.out _ (r.out _ _ rfl rfl))).mono ?_;rintro e w3 ⟨rfl,g⟩;have F:Hid (Av S w w3):=(r.out _ _ rfl rfl).trans g;clear g))
   go_roundw;case rel=>exact⟨i+1,_,by omega,by go_num,rfl,by omega,F.out⟩
   case measure=>simp[intOf];omega
  ·have y:¬ (i:Int) < (n:Int):=Ou;have I:i=n:=Ou;subst I;go_wp2_with fail;go_ret;exact⟨K,rfl,hK,m⟩
theorem Z6 {S:Nat->Prop} (a:Option Addr) (n cap:Nat) (k:Int) (h1:1<=k) (h2:k<=10000000) (hl:n<=1048576) (w:World) (hr:Ms S w a n) :
  Calls Tryz.prog 44 #[.slice a n cap,.int .i64 k] w (Qga S w k (6606028800000 * (n:Int))):=by
 have s:Hid (Ms S w a n):=hr;clear hr;go_enter Tryz.func44,Tryz.ntmps44;go_wp2_with fail;go_loopw [1,5] (fun q t wr => ∃ (i:Nat) (K:Int),i<=n/\t = .int .i64 (i:Int)/\q = .int .i64 K/\(k<=K/\K<=k+6606028800000 * (i:Int))/\Av S w wr) (fun _ t _=>n - (intOf t).toNat);case atStart=>exact⟨0,k,by omega,rfl,rfl,by omega,Av.refl _ _⟩
 case round =>
  obtain⟨i,K,C,rfl,rfl,v,b⟩:=hrel;by_cases hlt:i < n
  ·have d:(i:Int) < (n:Int):=Ou;obtain⟨p,o,r,u,m,B,y,c⟩:=s.out.tc b i hlt;subst m;have g:Hid (N6 S wr o r):=c;have h:Hid (Av S w wr):=b;clear c b;go_wp2_with (go_at_call 78;refine(Qd1 o r u _ Ou Ou y _ g.out).mono ?_;rintro e z ⟨A,rfl,x,f⟩;have j:Hid (Av S w z):=h.out.trans f;clear f);go_roundw;case rel=>exact⟨i+1,_,by omega,by go_num,rfl,by omega,j.out⟩
   case measure=>simp[intOf];omega
  ·have d:¬ (i:Int) < (n:Int):=Ou;have l:i=n:=Ou;subst l;go_wp2_with fail;go_ret;exact⟨K,rfl,v,b⟩
theorem Xu {S:Nat->Prop} (a:Option Addr) (n cap:Nat) (k:Int) (h1:1<=k) (h2:k<=7100000000000000000) (hl:n<=1048576) (w:World) (hr:Mu S w a n) :
  Calls Tryz.prog 46 #[.slice a n cap,.int .i64 k] w (Qga S w k (6300000 * (n:Int))):=by
 have W:Hid (Mu S w a n):=hr;clear hr;go_enter Tryz.func46,Tryz.ntmps46;go_wp2_with fail;go_loopw [1,5] (fun q t wr => ∃ (i:Nat) (K:Int),i<=n/\t = .int .i64 (i:Int)/\q = .int .i64 K/\(k<=K/\K<=k+6300000 * (i:Int))/\Av S w wr) (fun _ t _=>n - (intOf t).toNat);case atStart=>exact⟨0,k,by omega,rfl,rfl,by omega,Av.refl _ _⟩
 case round =>
  obtain⟨i,K,hi,rfl,rfl,Y,b⟩:=hrel;by_cases hlt:i < n
  ·have s:(i:Int) < (n:Int):=Ou;obtain⟨p,f,F,u,N⟩:=W.out Ou;subst F;obtain⟨v,⟨C,G,I,L,Z,o⟩,⟨D,H,J,M,l2,r⟩⟩:=N i hlt;have x:Hid (∀ U,Av S w U->Iv S U p (n * 5) f):=fun U h=>u.tc h
   have y:Hid (∀ U,Av S w U->C5 S U C (G * 3)):=fun U h=>o.tc h
   have z:Hid (∀ U,Av S w U->C5 S U D (H * 3)):=fun U h=>r.tc h
   have A:Hid (f (i * 5)=none/\f (i * 5+1)=none/\f (i * 5+2)=none):=v;have T:Hid (f (i * 5+3)=some (C,G,I)):=L;have V:Hid (f (i * 5+4)=some (D,H,J)):=M;have X:Hid (Av S w wr):=b;clear u N v L M o r;have j:=x.out wr b;obtain⟨⟨y0,k0⟩,f0⟩:=j.cell (i * 5) Ou;obtain⟨⟨y1,k1⟩,f1⟩:=j.cell (i * 5+1) Ou;obtain⟨⟨y2,k2⟩,f2⟩:=j.cell (i * 5+2) Ou;have d3:=j.at (i * 5+3) Ou T.out;have m:Hid (∀ v0 v1 v2,Fe v0=none->Fe v1=none->Fe v2=none->Av S w (((wr.setCell (OI p (i * 5)) v0).setCell (OI p (i * 5+1)) v1).setCell (OI p (i * 5+2)) v2)):=fun v0 v1 v2 g0 g1 g2=>by
    have P:=b.trans (j.set (i * 5) Ou A.out.1 v0 g0);have Q:=P.trans ((x.out _ P).set (i * 5+1) Ou A.out.2.1 v1 g1);exact Q.trans ((x.out _ Q).set (i * 5+2) Ou A.out.2.2 v2 g2)
   have O:Cv:=trivial;clear j b;go_wp2_with (first
    | (have _t:=O;go_at_call 80;refine(Pg C G I _ Ou Ou Z _ (y.out _ (m.out _ _ _ rfl rfl rfl))).mono ?_;rintro e R ⟨rfl,c⟩;have g:Av S w R:=(m.out _ _ _ rfl rfl rfl).trans c;have d4:=(x.out _ g).at (i * 5+4) Ou V.out;have l:Hid (Av S w R):=g;clear g c O)
    | (go_at_call 80;refine(Pg D H J _ Ou Ou l2 _ (z.out _ l.out)).mono ?_;rintro e w2 ⟨rfl,d⟩;have B:Hid (Av S w w2):=l.out.trans d;clear d))
   go_roundw;case rel=>exact⟨i+1,_,by omega,by go_num,rfl,by omega,B.out⟩
   case measure=>simp[intOf];omega
  ·have s:¬ (i:Int) < (n:Int):=Ou;have E:i=n:=Ou;subst E;go_wp2_with fail;go_ret;exact⟨K,rfl,Y,b⟩
theorem Qcm {S:Nat->Prop} (ca aa oa fa ia sa:Option Addr) (nc na no nf ni ns cc ac oc fc ic sc:Nat) (v4 v5 v6 v7 v8 v9 v10 v11:Value) (hl0:nc<=1048576) (hl1:na<=1048576) (hl2:no<=1048576) (hl3:nf<=1048576) (hl4:ni<=1048576) (hl5:ns<=1048576) (w:World) (hS:∀ k,S k->k < w.heap.size) (p0:Ms S w ca nc) (p1:C5 S w aa na) (p2:C5 S w oa no) (p3:Mu S w fa nf) (p4:C5 S w ia (ni * 2)) (p5:C5 S w sa ns) :
  Calls Tryz.prog 13 #[.agg #[.slice ca nc cc,.slice aa na ac,.slice oa no oc,.slice fa nf fc,v4,v5,v6,v7,v8,v9,v10,v11,.slice ia ni ic,.slice sa ns sc],.int .i64 1] w fun e w' => ∃ k,e = .returned (.int .i64 k)/\0<=k/\Av S w w':=by
 obtain⟨Y,r⟩:∃ Y,w.alloc (.cells #[.slice ca nc cc,.slice aa na ac,.slice oa no oc,.slice fa nf fc,v4,v5,v6,v7,v8,v9,v10,v11,.slice ia ni ic,.slice sa ns sc] 34)=Y:=⟨_,rfl⟩;have s:OH w Y:=by rw[<- r];exact Ao w _
 have b:Av S w Y:=Av.of_below s;have q:Hid (Av S w Y):=b;have o:Y.heap[w.heap.size]? = some (.cells #[.slice ca nc cc,.slice aa na ac,.slice oa no oc,.slice fa nf fc,v4,v5,v6,v7,v8,v9,v10,v11,.slice ia ni ic,.slice sa ns sc] 34):=by rw[<- r];exact Ae w _
 have f:Hid (∀ U,Av S Y U->U.heap[w.heap.size]? = some (.cells #[.slice ca nc cc,.slice aa na ac,.slice oa no oc,.slice fa nf fc,v4,v5,v6,v7,v8,v9,v10,v11,.slice ia ni ic,.slice sa ns sc] 34)):=fun U h=>(h.keep _ (Array.getElem?_eq_some_iff.1 o).1 (fun e=>Nat.lt_irrefl _ (hS _ e))).trans o
 have M:Hid (∀ U,Av S Y U->Ms S U ca nc):=fun U h=>p0.tc (b.trans h)
 have N:Hid (∀ U,Av S Y U->C5 S U aa na):=fun U h=>p1.tc (b.trans h)
 have O:Hid (∀ U,Av S Y U->C5 S U oa no):=fun U h=>p2.tc (b.trans h)
 have P:Hid (∀ U,Av S Y U->Mu S U fa nf):=fun U h=>p3.tc (b.trans h)
 have Q:Hid (∀ U,Av S Y U->C5 S U ia (ni * 2)):=fun U h=>p4.tc (b.trans h)
 have R:Hid (∀ U,Av S Y U->C5 S U sa ns):=fun U h=>p5.tc (b.trans h)
 have g:Hid (Av S Y Y):=Av.refl _ _;obtain⟨d0,-⟩:=Aa o 0 (.slice ca nc cc) rfl;have t:Cv:=trivial;have q0:1<=(1:Int)/\(1:Int)<=1:=Ou
 have T:Hid (∀ (k:Int),(1<=k/\k<=1)->∀ U,Ms S U ca nc->Calls Tryz.prog 44 #[.slice ca nc cc,.int .i64 k] U fun e w' => ∃ K:Int,e = .returned (.int .i64 K)/\(1<=K/\K<=7000000000000000000)/\Av S U w'):=fun k h U hp=>(Z6 ca nc cc k h.1 Ou hl0 U hp).mono (by rintro e w' ⟨K,rfl,h2,d⟩;exact⟨K,rfl,by omega,d⟩)
 have V:Hid (∀ (k:Int),(1<=k/\k<=7000000000000000000)->∀ U,C5 S U aa (na)->Calls Tryz.prog 45 #[.slice aa na ac,.int .i64 k] U fun e w' => ∃ K:Int,e = .returned (.int .i64 K)/\(1<=K/\K<=7000010000000000000)/\Av S U w'):=fun k h U hp=>(Je aa na ac k h.1 Ou hl1 U hp).mono (by rintro e w' ⟨rfl,d,-⟩;exact⟨_,rfl,by omega,d⟩)
 have W:Hid (∀ (k:Int),(1<=k/\k<=7000010000000000000)->∀ U,C5 S U oa (no)->Calls Tryz.prog 45 #[.slice oa no oc,.int .i64 k] U fun e w' => ∃ K:Int,e = .returned (.int .i64 K)/\(1<=K/\K<=7000020000000000000)/\Av S U w'):=fun k h U hp=>(Je oa no oc k h.1 Ou hl2 U hp).mono (by rintro e w' ⟨rfl,d,-⟩;exact⟨_,rfl,by omega,d⟩)
 have X:Hid (∀ (k:Int),(1<=k/\k<=7000020000000000000)->∀ U,Mu S U fa nf->Calls Tryz.prog 46 #[.slice fa nf fc,.int .i64 k] U fun e w' => ∃ K:Int,e = .returned (.int .i64 K)/\(1<=K/\K<=7000030000000000000)/\Av S U w'):=fun k h U hp=>(Xu fa nf fc k h.1 Ou hl3 U hp).mono (by rintro e w' ⟨K,rfl,h2,d⟩;exact⟨K,rfl,by omega,d⟩)
 have Z:Hid (∀ (k:Int),(1<=k/\k<=7000030000000000000)->∀ U,C5 S U ia (ni * 2)->Calls Tryz.prog 47 #[.slice ia ni ic,.int .i64 k] U fun e w' => ∃ K:Int,e = .returned (.int .i64 K)/\(1<=K/\K<=7000040000000000000)/\Av S U w'):=fun k h U hp=>(Qn ia ni ic k h.1 Ou hl4 U hp).mono (by rintro e w' ⟨rfl,d,-⟩;exact⟨_,rfl,by omega,d⟩)
 have Q5:Hid (∀ (k:Int),(1<=k/\k<=7000040000000000000)->∀ U,C5 S U sa (ns)->Calls Tryz.prog 45 #[.slice sa ns sc,.int .i64 k] U fun e w' => ∃ K:Int,e = .returned (.int .i64 K)/\(1<=K/\K<=7000050000000000000)/\Av S U w'):=fun k h U hp=>(Je sa ns sc k h.1 Ou hl5 U hp).mono (by rintro e w' ⟨rfl,d,-⟩;exact⟨_,rfl,by omega,d⟩)
 clear p0 p1 p2 p3 p4 p5 s b o hS;go_enter Tryz.func13,Tryz.ntmps13;go_wp2_with (first
  | (have _t:=t;go_at_call 44;refine(T.out 1 q0 _ (M.out _ g.out)).mono ?_;rintro e A ⟨G,rfl,q1,a⟩;have b:Av S Y A:=g.out.trans a;have c:=f.out _ b;obtain⟨d1,-⟩:=Aa c 1 (.slice aa na ac) rfl;clear c;have i:Hid (Av S Y A):=b;clear b a t;have u:Cv:=trivial)
  | (have _t:=u;go_at_call 45;refine(V.out G q1 _ (N.out _ i.out)).mono ?_;rintro e B ⟨H,rfl,q2,a⟩;have b:Av S Y B:=i.out.trans a;have c:=f.out _ b;obtain⟨d2,-⟩:=Aa c 2 (.slice oa no oc) rfl;clear c;have j:Hid (Av S Y B):=b;clear b a u;have v:Cv:=trivial)
  | (have _t:=v;go_at_call 45;refine(W.out H q2 _ (O.out _ j.out)).mono ?_;rintro e C ⟨I,rfl,q3,a⟩;have b:Av S Y C:=j.out.trans a;have c:=f.out _ b;obtain⟨d3,-⟩:=Aa c 3 (.slice fa nf fc) rfl;clear c;have l:Hid (Av S Y C):=b;clear b a v;have x:Cv:=trivial)
  | (have _t:=x;go_at_call 46;refine(X.out I q3 _ (P.out _ l.out)).mono ?_;rintro e D ⟨J,rfl,q4,a⟩;have b:Av S Y D:=l.out.trans a;have c:=f.out _ b;obtain⟨ab,-⟩:=Aa c 12 (.slice ia ni ic) rfl;clear c;have m:Hid (Av S Y D):=b;clear b a x;have y:Cv:=trivial)
  | (have _t:=y;go_at_call 47;refine(Z.out J q4 _ (Q.out _ m.out)).mono ?_;rintro e E ⟨L,rfl,q5,a⟩;have b:Av S Y E:=m.out.trans a;have c:=f.out _ b;obtain⟨ad,-⟩:=Aa c 13 (.slice sa ns sc) rfl;clear c;have n:Hid (Av S Y E):=b;clear b a y;have z:Cv:=trivial)
  | (have _t:=z;go_at_call 45;refine(Q5.out L q5 _ (R.out _ n.out)).mono ?_;rintro e F ⟨K5,rfl,q6,a⟩;have b:Av S Y F:=n.out.trans a;have p:Hid (Av S Y F):=b;clear b a z;have m6:Cv:=trivial))
 go_ret;exact⟨_,rfl,by omega,q.out.trans p.out⟩
theorem Qem {S:Nat->Prop} {w:World} {g e N:Nat} {cur:Array Value} (h:Gx g e N w cur) (hS:S g) (hc:∀ i,i < N->∃ v,w.cell? (OI g i)=some v/\Fe v=none):C5 S w (some (OI g 0)) N:=fun _ =>
 ⟨g,rfl,hS,cur,e,h.blk,fun i hi=>by
  obtain⟨v,a,b⟩:=hc i hi
  rw[Lib.cell_of_heap h.blk]at a
  rw[Array.getElem?_map,a,Option.map_some,b]⟩
theorem Qen {S:Nat->Prop} {w:World} {g e N:Nat} {cur:Array Value} (h:Gx g e N w cur) (hS:S g):Iv S w g N (fun j=>((cur.map Fe)[j]?).getD none) :=
 ⟨hS,cur,e,h.blk,fun i hi=>by
  show (cur.map Fe)[i]? = some (((cur.map Fe)[i]?).getD none)
  rw[Array.getElem?_map,Array.getElem?_eq_getElem (by rw[h.size];exact hi)]
  rfl⟩
theorem Jv {w:World} {g e N:Nat} {cur:Array Value} (h:Gx g e N w cur) (i:Nat) {v:Option Value} (hc:w.cell? (OI g i)=v):((cur.map Fe)[i]?).getD none=(v.map Fe).getD none:=by
 rw[Array.getElem?_map,<- Lib.cell_of_heap h.blk,hc]
theorem Qgc {S:Nat->Prop} {A:Nat} {w:World} {a:Option Addr} {cap:Nat} {c:List Af} (h:Dd A w.heap.size w (.slice a c.length cap) c) (hs:Oe c) (hS:∀ k,A<=k->k < w.heap.size->S k):N6 S w a c.length:=fun h0=>by
 obtain⟨H,z,e,C⟩:=h
 injection e with e1 _ e2
 subst e1 e2
 obtain⟨g,-,-,B,F,G,-,-,-,-,-,⟨D,d⟩,-,-⟩:=C 0 h0
 refine⟨g,_,B,Qen d (hS g F G),fun k hk => ?_⟩
 obtain⟨M,Q,N,f,-,-,b,r,o,-,-,-,⟨p,O,K,I,u,t,j⟩,⟨q,P,L,J,s,v,l⟩⟩:=C k hk
 rw[B]at f
 injection f with f;injection f with f
 subst f u s
 obtain⟨_,_,n,r⟩:=r
 injection n with eP0 n _
 obtain⟨_,_,m,o⟩:=o
 injection m with eI0 m _
 subst n m eP0 eI0
 obtain⟨-,y,x⟩:=hs.2 _ (List.getElem_mem hk)
 refine⟨⟨Jv d _ (b 0 Ou),Jv d _ (b 2 Ou),Jv d _ (b 3 Ou)⟩,⟨_,_,_,Jv d _ (b 1 Ou),y,Qem j (hS _ t j.lt) fun i hi => ?_⟩,_,_,_,Jv d _ (b 4 Ou),x,Qem l (hS _ v l.lt) fun i hi => ?_⟩
 ·obtain⟨_,_,e,-,h⟩:=r i hi
  injection e with e;injection e with e1 e2
  subst e1 e2
  rw[Nat.zero_add]at h
  exact⟨_,h,rfl⟩
 ·obtain⟨_,e,-,h⟩:=o (i / 4) Ou
  injection e with e;injection e with e1 e2
  subst e1
  have h:=h (i % 4) Ou
  rw[show i / 4 * 4+i % 4=i by omega]at h
  have E:i % 4=0\/i % 4=1\/i % 4=2\/i % 4=3:=Ou
  rcases E with e|e|e|e <;> rw[e]at h <;> exact⟨_,h,rfl⟩
theorem Z7 {l:List ByteArray}:∀ x ∈ l.map Value.string,Fe x=none:=by
 intro x a;obtain⟨y,-,rfl⟩:=List.mem_map.1 a;rfl
theorem Qgf {l:List Dg}:∀ x ∈ Di l,Fe x=none:=by
 intro x a;obtain⟨y,-,h⟩:=List.mem_flatMap.1 a;simp only[Tp,List.mem_cons,List.not_mem_nil,or_false]at h;rcases h with rfl|rfl <;> rfl
theorem Qgg {l:List Ea}:∀ x ∈ D9 l,Fe x=none:=by
 intro x a;obtain⟨y,-,h⟩:=List.mem_flatMap.1 a;simp only[En,List.mem_cons,List.not_mem_nil,or_false]at h;rcases h with rfl|rfl|rfl <;> rfl
theorem Qgb {S:Nat->Prop} {A:Nat} {w:World} {a:Option Addr} {cap:Nat} {cs:List (List Af)} (h:Bq A w (.slice a cs.length cap) cs) (hs:Qu cs) (hS:∀ k,A<=k->k < w.heap.size->S k):Ms S w a cs.length:=fun k hk=>by
 obtain⟨j,b,e,i⟩:=h
 injection e with e1 _ e2
 subst e1 e2
 obtain⟨g,p,c,-,-,d,f⟩:=i k hk
 exact⟨g,p,_,_,c,d,(hs.2 _ (List.getElem_mem hk)).1,Qgc f (hs.2 _ (List.getElem_mem hk)) hS⟩
theorem Qgd {S:Nat->Prop} {A:Nat} {w:World} {a:Option Addr} {cap:Nat} {fs:List Fh} (h:Cn A w (.slice a fs.length cap) fs) (hs:Of fs) (hS:∀ k,A<=k->k < w.heap.size->S k):Mu S w a fs.length:=fun h0=>by
 obtain⟨s,j,e,m⟩:=h
 injection e with e1 _ e2
 subst e1 e2
 obtain⟨g,-,-,-,-,l,q,r,-,-,-,n,c⟩:=m 0 h0
 refine⟨g,_,l,Qen c (hS g q r),fun k hk => ?_⟩
 obtain⟨t,u,v,x,y,d,-,-,b,o,p,-⟩:=m k hk
 rw[l]at d
 injection d with d;injection d with d
 subst d
 obtain⟨i,f⟩:=hs.2 _ (List.getElem_mem hk)
 exact⟨⟨Jv c _ (b 0 Ou),Jv c _ (b 1 Ou),Jv c _ (b 2 Ou)⟩,⟨_,_,_,Jv c _ (b 3 Ou),i.1,C5.own o hS Qgg⟩,_,_,_,Jv c _ (b 4 Ou),f.1,C5.own p hS Qgg⟩
theorem Iw {w:World} {A e size n:Nat} {v:Value} {xs:List Value} (h:w.ownsRow A e size v n xs):∀ j,v.ownBlock=some j->A<=j:=fun j hj=>by
 rcases h.2 with⟨rfl,-⟩|⟨g,a,b,rfl,c,-⟩
 ·cases hj
 ·injection hj with hj;subst hj;exact c
theorem Qm (w:World) (l:List Value) (t:TypeId):∀ j u,l[j]? = some u->(w.alloc (.cells l.toArray t)).cell? (((OK w 0):Addr).add j)=some u:=by
 intro j u a;have h:=(MapKept.heap_alloc w (.cells l.toArray t)).1;have e:((OK w 0):Addr).add j=(OK w j):=by
  rcases Nat.eq_zero_or_pos j with rfl|b
  ·rfl
  ·simp[Addr.add];omega
 rw[e,Lib.cell_of_heap h];simpa using a
def Tryz.laysGStr_ren : Go.Shelf.Ren:=⟨fun|4=>104|n=>n,fun|0=>0|3=>3|4=>4|9=>9|20=>20|22=>23|25=>9|n=>n,fun|n=>n⟩
theorem Tryz.laysGStr : Go.Proofs.Lays8.n4 Tryz.prog Tryz.laysGStr_ren:={
 mixed:=OA
 f4:=⟨Tryz.f104.name,by kernel_rfl,Tryz.func104.trans (congrArg some OA)⟩
 t0:=Tryz.underlying0
 a0:=Tryz.isAgg0
 z0:=Tryz.sizeOf0
 v0:=Tryz.zeroValue0
 t3:=Tryz.underlying3
 a3:=Tryz.isAgg3
 z3:=Tryz.sizeOf3
 v3:=Tryz.zeroValue3
 t4:=Tryz.underlying4
 a4:=Tryz.isAgg4
 z4:=Tryz.sizeOf4
 v4:=Tryz.zeroValue4
 t9:=Tryz.underlying9
 a9:=Tryz.isAgg9
 z9:=Tryz.sizeOf9
 v9:=Tryz.zeroValue9
 t20:=Tryz.underlying20
 a20:=Tryz.isAgg20
 z20:=Tryz.sizeOf20
 v20:=Tryz.zeroValue20
 t22:=Tryz.underlying23
 a22:=Tryz.isAgg23
 z22:=Tryz.sizeOf23
 v22:=Tryz.zeroValue23 }
def Tryz.laysGFile_ren : Go.Shelf.Ren:=⟨fun|4=>105|n=>n,fun|0=>0|3=>3|4=>4|9=>9|20=>20|22=>32|25=>55|n=>n,fun|n=>n⟩
theorem Tryz.laysGFile : Go.Proofs.Lays8.n4 Tryz.prog Tryz.laysGFile_ren:={
 mixed:=OA
 f4:=⟨Tryz.f105.name,by kernel_rfl,Tryz.func105.trans (congrArg some OA)⟩
 t0:=Tryz.underlying0
 a0:=Tryz.isAgg0
 z0:=Tryz.sizeOf0
 v0:=Tryz.zeroValue0
 t3:=Tryz.underlying3
 a3:=Tryz.isAgg3
 z3:=Tryz.sizeOf3
 v3:=Tryz.zeroValue3
 t4:=Tryz.underlying4
 a4:=Tryz.isAgg4
 z4:=Tryz.sizeOf4
 v4:=Tryz.zeroValue4
 t9:=Tryz.underlying9
 a9:=Tryz.isAgg9
 z9:=Tryz.sizeOf9
 v9:=Tryz.zeroValue9
 t20:=Tryz.underlying20
 a20:=Tryz.isAgg20
 z20:=Tryz.sizeOf20
 v20:=Tryz.zeroValue20
 t22:=Tryz.underlying32
 a22:=Tryz.isAgg32
 z22:=Tryz.sizeOf32
 v22:=Tryz.zeroValue32 }
theorem Pu : (Tryz.prog.info? 9).map (fun i=>(i.zero,i.size,i.bytes))=some (some (.string ByteArray.empty),1,16):=OA
theorem Qd0 (n:Nat) (w:World) (hn:n<=1048576) :
  Calls Tryz.prog 104 #[.slice none 0 0,.int .i64 (n:Int)] w fun e w' => ∃ a c,e = .returned (.slice a 0 c)/\w'.ownsRow w.heap.size 9 1 (.slice a 0 c) 0 []/\OH w w':=by
 by_cases h0:n=0
 ·subst h0;refine(Any8.slices_Grow_room Tryz.laysGStr none 0 0 0 w Ou Ou Ou Ou).mono ?_;rintro e w' ⟨rfl,rfl⟩;exact⟨none,0,rfl,⟨rfl,.inl ⟨rfl,rfl⟩⟩,Below.refl _ _⟩
 ·obtain⟨o,f,h,m,i⟩:=info_parts Pu;refine(Any8.slices_Grow_grow Tryz.laysGStr o _ f h Ou none 0 0 n [] w Ou Ou (by rw[i];omega) Ou OB (fun _=>rfl) (fun a ha=>by cases ha)).mono ?_;rintro e w' ⟨rfl,rfl⟩;obtain⟨d,b⟩:∃ d,grownCap w (0+n) 0 9=d:=⟨_,rfl⟩;have l:0+n<=d:=by rw[<- b];exact grownCap_ge _ _ _ _
  have g:d<=maxLen:=by rw[<- b];exact grownCap_le_maxLen _ _ _ _ OF
  refine⟨some (OK w 0),d,by rw[<- b];rfl,⟨rfl,.inr ⟨w.heap.size,d,_,rfl,Nat.le_refl _,(MapKept.heap_alloc w.drew _).1,Nat.zero_le _,g, ?_,by simp⟩⟩,(Below.refl _ w).drew.alloc (Nat.le_refl _) _⟩;have j:(.string ByteArray.empty:Value).cells.size=1:=rfl;have k:grownCap w (0+n) 0 (Tryz.laysGStr_ren.t 25)=d:=b;rw[Array.size_append,Array.size_append,size_zeroCells,size_zeroCells,j,k];simp;omega
theorem N7 : (Tryz.prog.info? 55).map (fun i=>(i.zero,i.size,i.bytes))=some (some (.agg #[.string ByteArray.empty,.string ByteArray.empty]),2,32):=OA
theorem Qcg (n:Nat) (w:World) (hn:n<=1048576) :
  Calls Tryz.prog 105 #[.slice none 0 0,.int .i64 (n:Int)] w fun e w' => ∃ a c,e = .returned (.slice a 0 c)/\w'.ownsRow w.heap.size 55 2 (.slice a 0 c) 0 []/\OH w w':=by
 by_cases h0:n=0
 ·subst h0;refine(Any8.slices_Grow_room Tryz.laysGFile none 0 0 0 w Ou Ou Ou Ou).mono ?_;rintro e w' ⟨rfl,rfl⟩;exact⟨none,0,rfl,⟨rfl,.inl ⟨rfl,rfl⟩⟩,Below.refl _ _⟩
 ·obtain⟨o,f,h,m,i⟩:=info_parts N7;refine(Any8.slices_Grow_grow Tryz.laysGFile o _ f h Ou none 0 0 n [] w Ou Ou (by rw[i];omega) Ou OB (fun _=>rfl) (fun a ha=>by cases ha)).mono ?_;rintro e w' ⟨rfl,rfl⟩;obtain⟨d,b⟩:∃ d,grownCap w (0+n) 0 55=d:=⟨_,rfl⟩;have l:0+n<=d:=by rw[<- b];exact grownCap_ge _ _ _ _
  have g:d<=maxLen:=by rw[<- b];exact grownCap_le_maxLen _ _ _ _ OF
  refine⟨some (OK w 0),d,by rw[<- b];rfl,⟨rfl,.inr ⟨w.heap.size,d,_,rfl,Nat.le_refl _,(MapKept.heap_alloc w.drew _).1,Nat.zero_le _,g, ?_,by simp⟩⟩,(Below.refl _ w).drew.alloc (Nat.le_refl _) _⟩;have j:(.agg #[.string ByteArray.empty,.string ByteArray.empty]:Value).cells.size=2:=rfl;have k:grownCap w (0+n) 0 (Tryz.laysGFile_ren.t 25)=d:=b;rw[Array.size_append,Array.size_append,size_zeroCells,size_zeroCells,j,k];simp;omega
theorem Jd (s:ByteArray) (w:World) (hlim:s.size<=1048576):Calls Tryz.prog 74 #[.string s] w fun e w'=>e = .returned (.string s)/\OH w w':=by
 have b:Hid (Calls Tryz.prog 103 #[.string s] w fun e w'=>e = .returned (.string s)/\OH w w'):=Tryz.stringslite_Clone s w Ou;go_enter Tryz.func74,Tryz.ntmps74;go_wp2_with (go_at_call 103;refine b.out.mono ?_;rintro e c ⟨rfl,a⟩);go_ret;exact⟨rfl,a⟩
theorem Xt (a b:ByteArray) (w:World) (ha:a.size<=1048576) (hb:b.size<=1048576) :
  Calls Tryz.prog 77 #[.agg #[.string a,.string b]] w fun e w'=>e = .returned (.agg #[.string a,.string b])/\OH w w':=by
 have j:Hid (∀ c,Below (w.heap.size+1+1) ((w.alloc (.cells #[.string a,.string b] 55)).alloc (.cells #[.string ⟨#[]⟩,.string ⟨#[]⟩] 55)) c->c.cell? (OK w 0)=some (.string a)/\c.cell? (OK w 1)=some (.string b)/\c.cell? (OJ w 1 0)=some (.string ⟨#[]⟩)/\c.cell? (OJ w 1 1)=some (.string ⟨#[]⟩)/\c.frozen? (OJ w 1 0)=false/\c.frozen? (OJ w 1 1)=false/\OH w c):=fun c h=>by
  have k:c.heap[w.heap.size]? = some (.cells #[.string a,.string b] 55):=by
   rw[h.block w.heap.size Ou];exact((((Below.refl _ (w.alloc (.cells #[.string a,.string b] 55))).alloc (Nat.le_refl _) (.cells #[.string ⟨#[]⟩,.string ⟨#[]⟩] 55)).block w.heap.size OB).trans (MapKept.heap_alloc w _).1)
  have f:c.heap[w.heap.size+1]? = some (.cells #[.string ⟨#[]⟩,.string ⟨#[]⟩] 55):=by
   rw[h.block (w.heap.size+1) Ou];have e:=(MapKept.heap_alloc (w.alloc (.cells #[.string a,.string b] 55)) (.cells #[.string ⟨#[]⟩,.string ⟨#[]⟩] 55)).1;rw[World.size_alloc]at e;exact e
  refine⟨by simp[World.cell?,k],by simp[World.cell?,k],by simp[World.cell?,f],by simp[World.cell?,f],by simp[World.frozen?,f],by simp[World.frozen?,f], ?_⟩;exact(((Below.refl _ w).alloc (Nat.le_refl _) _).alloc OB _).trans (h.mono Ou)
 have n:Hid (∀ c:World,Below (w.heap.size+1+1) ((w.alloc (.cells #[.string a,.string b] 55)).alloc (.cells #[.string ⟨#[]⟩,.string ⟨#[]⟩] 55)) c->c.cell? (OK w 0)=some (.string a)->c.cell? (OK w 1)=some (.string b)->((c.setCell (OJ w 1 0) (.string a)).setCell (OJ w 1 1) (.string b)).cell? (OK w 0)=some (.string a)/\((c.setCell (OJ w 1 0) (.string a)).setCell (OJ w 1 1) (.string b)).cell? (OK w 1)=some (.string b)):=fun c _ k f =>
  ⟨by rw[World.cell?_setCell_far _ _ _ _ OB,World.cell?_setCell_far _ _ _ _ OB];exact k,by rw[World.cell?_setCell_far _ _ _ _ OB,World.cell?_setCell_far _ _ _ _ OB];exact f⟩
 go_enter Tryz.func77,Tryz.ntmps77;go_wp2_with fail;refine wp_region_held_drew (S:=(fun W=>W.cell? (OK w 0)=some (.string a)/\W.cell? (OK w 1)=some (.string b))) OA (⟨(j.out _ (Below.refl _ _).drew).1,(j.out _ (Below.refl _ _).drew).2.1⟩) fun _=>?_
 refine Tk 0 (.pointer (some (OK w 0))) ?_;refine Tk 1 (.string a) ?_;refine Tk 3 (.pointer (some (OK w 1))) ?_;(try simp[Act.put]);refine Tk 4 (.string b) ?_;(try simp[Act.put]);refine Tr 2 rfl fun KK hK=>?_
 go_simp;(go_at_call 74;refine(Jd a _ Ou).mono ?_;rintro e c ⟨rfl,o⟩;have d:Below (w.heap.size+1+1) ((w.alloc (.cells #[.string a,.string b] 55)).alloc (.cells #[.string ⟨#[]⟩,.string ⟨#[]⟩] 55)) c:=(Below.refl (w.heap.size+1+1) ((w.alloc (.cells #[.string a,.string b] 55)).alloc (.cells #[.string ⟨#[]⟩,.string ⟨#[]⟩] 55))).drew.trans (o.mono OB);obtain⟨l,m,s,t,u,x,g⟩:=j.out c d);go_wp2;refine hK.out _ _ (⟨l,m⟩) fun _=>?_
 clear hK;(try simp[Act.put]);refine Tr 5 rfl fun KK hK=>?_
 go_simp;(go_at_call 74;refine(Jd b _ Ou).mono ?_;rintro e r ⟨rfl,q⟩;have i:Below (w.heap.size+1+1) ((w.alloc (.cells #[.string a,.string b] 55)).alloc (.cells #[.string ⟨#[]⟩,.string ⟨#[]⟩] 55)) r:=d.trans (q.mono (by have:=d.size;simpa using this));obtain⟨l,m,s,t,u,x,g⟩:=j.out r i);go_wp2;refine hK.out _ _ (⟨l,m⟩) fun _=>?_
 clear hK;(try simp[Act.put]);refine Tk 6 (.agg #[.string a,.string b]) ?_;(try simp[Act.put]);refine Tr 7 rfl fun KK hK=>?_
 go_simp;refine hK.out _ _ (n.out r i l m) fun _=>?_
 clear hK;(try simp[Act.put]);refine wpAnyH_done OA ?_ _;go_wp2;exact bodyPost_ret (v:=.agg #[.string a,.string b]) (by simp[results,Tryz.results77,go_sem,s,t]) rfl ⟨rfl,(g.setCell (p:=(OJ w 1 0)) OG _).setCell (p:=(OJ w 1 1)) OG _⟩
theorem Z2 (l:List ByteArray) (a0:Option Addr) (cap:Nat) (w:World) (hl:l.length<=1048576) (hx:∀ d ∈ l,d.size<=1048576) (hin:∀ i (S:i < l.length),∃ g o,a0=some (OI g o)/\g < w.heap.size/\w.cell? (OI g (o+i))=some (.string l[i])) :
  Calls Tryz.prog 75 #[.slice a0 l.length cap,.func (Fn.func 74) #[] #[]] w fun e w' => ∃ a c,e = .returned (.slice a l.length c)/\w'.ownsRow w.heap.size 9 1 (.slice a l.length c) l.length (l.map Value.string)/\OH w w':=by
 obtain⟨i0,J,M,N,O⟩:=info_parts Pu;obtain⟨n,D⟩:∃ n,Hid (l.length=n):=⟨_,(rfl:l.length=_)⟩;have B:Hid (∀ i (S:i < l.length),∃ g o,a0=some (OI g o)/\g < w.heap.size/\w.cell? (OI g (o+i))=some (.string l[i])):=hin;have X:Hid (∀ d ∈ l,d.size<=1048576):=hx;clear hin hx;rw[D.out]at hl |-
 go_enter Tryz.func75,Tryz.ntmps75;go_wp2_with (go_at_call 104;refine(Qd0 n _ hl).mono ?_;rintro e w1 ⟨ga,gc,rfl,j,v⟩);go_loopw [5,13] (fun t5 t13 wr => ∃ (i:Nat) (a:Option Addr) (c:Nat),i<=n/\t5 = .slice a i c/\t13 = .int .i64 (i:Int)/\wr.ownsRow w.heap.size 9 1 (.slice a i c) i ((l.take i).map Value.string)/\OH w wr) (fun _ t13 _=>n - (intOf t13).toNat);case atStart=>exact⟨0,ga,gc,by omega,rfl,rfl,j,v⟩
 case round =>
  obtain⟨i,a,c,S,rfl,rfl,r,k⟩:=hrel;have E:Hid (wr.ownsRow w.heap.size 9 1 (.slice a i c) i ((l.take i).map Value.string)):=r;have hz:=k.size;clear r j v;by_cases hlt:i < n
  ·have z:(i:Int) < (n:Int):=Ou;have s:i < l.length:=(by rw[D.out];exact hlt);obtain⟨R,V,rfl,H,T⟩:=B.out i s;have e0:wr.cell? (OI R (V+i))=some (.string l[i]):=(by rw[k.cell (p:=(OI R (V+i))) H,T]);have t:=X.out _ (List.getElem_mem s);have f:Hid ((l.take i).map Value.string++[.string l[i]]=(l.take (i+1)).map Value.string):=(by rw[Hid,List.take_add_one,List.getElem?_eq_getElem s,List.map_append];simp);obtain⟨u,Q⟩:∃ d,Hid (l[i]=d):=⟨_,(rfl:l[i]=_)⟩;rw[Q.out]at e0 t f;have F:Hid ((l.take i).map Value.string++[.string u]=(l.take (i+1)).map Value.string):=f.out;have C:Hid (∀ U:World,Calls Tryz.prog 74 #[.string u] U fun e w'=>e = .returned (.string u)/\OH U w'):=fun U=>Jd u U t
   clear T B f Q t;go_wp2_with fail;refine(C.out _).mono ?_;rintro e P ⟨rfl,m⟩;have y:OH wr P:=m;clear m;have q:OH w P:=k.trans (y.mono hz);have A:=q.size;try simp only
   go_wp2_with (first
    | (at_builtin;(refine wpList_append_own _ rfl _ _ 23 rfl w.heap.size 9 i0 (.string ByteArray.empty) 1 16 Tryz.underlying23 J M N O rfl Ov _ _ _ rfl ((By E.out (Nat.le_refl _) (Bf.below y)).alloc _) (OK P 0) 1 1 [.string u] rfl rfl (Qm _ [.string u] _) (fun x hx=>by simp at hx;rcases hx with rfl <;> rfl) OF Ou OD ?_;intro v3 w3 b I _;rw[F.out]at b;obtain⟨Y,Z,L⟩:=Cp b;subst L;have G:OH w w3:=(q.alloc A _).grown I OD (Iw E.out))))
   go_roundw;case rel=>exact⟨i+1,Y,Z,by omega,rfl,by go_num,b,G⟩
   case measure=>simp[intOf];omega
  ·have z:¬ (i:Int) < (n:Int):=Ou;have K:i=n:=Ou;subst K;have W:Hid (wr.ownsRow w.heap.size 9 1 (.slice a i c) i (l.map Value.string)):=by
    have e:l.take i=l:=List.take_of_length_le (by rw[D.out];omega);have h:=E.out;rw[e]at h;exact h
   clear B;go_wp2_with fail;go_ret;exact⟨_,_,rfl,W.out,k⟩
theorem Qdz (a b:List Dg):Di (a++b)=Di a++Di b:=by unfold Di;rw[List.flatMap_append]
theorem Vh (l:List Dg) (a0:Option Addr) (cap:Nat) (w:World) (hl:l.length<=1048576) (hx:∀ d ∈ l,d.name.size<=1048576/\d.text.size<=1048576) (hin:∀ i (V:i < l.length),∃ g o,a0=some (OI g o)/\g < w.heap.size/\w.cell? (OI g (o+i * 2))=some (.string l[i].name)/\w.cell? (OI g (o+i * 2+1))=some (.string l[i].text)) :
  Calls Tryz.prog 76 #[.slice a0 l.length cap,.func (Fn.func 77) #[] #[]] w fun e w' => ∃ a c,e = .returned (.slice a l.length c)/\w'.ownsRow w.heap.size 55 2 (.slice a l.length c) l.length (Di l)/\OH w w':=by
 obtain⟨i0,M,P,Q,R⟩:=info_parts N7;obtain⟨n,H⟩:∃ n,Hid (l.length=n):=⟨_,(rfl:l.length=_)⟩;have F:Hid (∀ i (V:i < l.length),∃ g o,a0=some (OI g o)/\g < w.heap.size/\w.cell? (OI g (o+i * 2))=some (.string l[i].name)/\w.cell? (OI g (o+i * 2+1))=some (.string l[i].text)):=hin;have Z:Hid (∀ d ∈ l,d.name.size<=1048576/\d.text.size<=1048576):=hx;clear hin hx;rw[H.out]at hl |-
 go_enter Tryz.func76,Tryz.ntmps76;go_wp2_with (go_at_call 105;refine(Qcg n _ hl).mono ?_;rintro e w1 ⟨ga,gc,rfl,k,y⟩);go_loopw [5,13] (fun t5 t13 wr => ∃ (i:Nat) (a:Option Addr) (c:Nat),i<=n/\t5 = .slice a i c/\t13 = .int .i64 (i:Int)/\wr.ownsRow w.heap.size 55 2 (.slice a i c) i (Di (l.take i))/\OH w wr) (fun _ t13 _=>n - (intOf t13).toNat);case atStart=>exact⟨0,ga,gc,by omega,rfl,rfl,k,y⟩
 case round =>
  obtain⟨i,a,c,V,rfl,rfl,s,j⟩:=hrel;have I:Hid (wr.ownsRow w.heap.size 55 2 (.slice a i c) i (Di (l.take i))):=s;have hz:=j.size;clear s k y;by_cases hlt:i < n
  ·have B:(i:Int) < (n:Int):=Ou;have t:i < l.length:=(by rw[H.out];exact hlt);obtain⟨D,E,rfl,A,W,X⟩:=F.out i t;have e0:wr.cell? (OI D (E+i * 2))=some (.string l[i].name):=(by rw[j.cell (p:=(OI D (E+i * 2))) A,W]);have e1:wr.cell? (OI D (E+i * 2+1))=some (.string l[i].text):=(by rw[j.cell (p:=(OI D (E+i * 2+1))) A,X]);have m:=Z.out _ (List.getElem_mem t);have f:Hid (Di (l.take i)++Tp l[i]=Di (l.take (i+1))):=(by rw[Hid,List.take_add_one,List.getElem?_eq_getElem t,Qdz];simp[Di]);obtain⟨⟨u,v⟩,T⟩:∃ d,Hid (l[i]=d):=⟨_,(rfl:l[i]=_)⟩;rw[T.out]at e0 e1 m f;have J:Hid (Di (l.take i)++[.string u,.string v]=Di (l.take (i+1))):=f.out;have G:Hid (∀ U:World,Calls Tryz.prog 77 #[.agg #[.string u,.string v]] U fun e w'=>e = .returned (.agg #[.string u,.string v])/\OH U w'):=fun U=>Xt u v U m.1 m.2
   clear W X F f T m;go_wp2_with fail;refine(G.out _).mono ?_;rintro e S ⟨rfl,q⟩;have z:OH wr S:=(Ao wr _).trans (q.mono OB);clear q;have r:OH w S:=j.trans (z.mono hz);have C:=r.size;try simp only
   go_wp2_with (first
    | (at_builtin;(refine wpList_append_own _ rfl _ _ 32 rfl w.heap.size 55 i0 (.agg #[.string ByteArray.empty,.string ByteArray.empty]) 2 32 Tryz.underlying32 M P Q R rfl Ov _ _ _ rfl ((By I.out (Nat.le_refl _) (Bf.below z)).alloc _) (OK S 0) 1 1 [.string u,.string v] rfl rfl (Qm _ [.string u,.string v] _) (fun x hx=>by simp at hx;rcases hx with rfl|rfl <;> rfl) OF Ou OD ?_;intro v3 w3 b L _;rw[J.out]at b;obtain⟨a3,c3,O⟩:=Cp b;subst O;have K:OH w w3:=(r.alloc C _).grown L OD (Iw I.out))))
   go_roundw;case rel=>exact⟨i+1,a3,c3,by omega,rfl,by go_num,b,K⟩
   case measure=>simp[intOf];omega
  ·have B:¬ (i:Int) < (n:Int):=Ou;have N:i=n:=Ou;subst N;have Y:Hid (wr.ownsRow w.heap.size 55 2 (.slice a i c) i (Di l)):=by
    have e:l.take i=l:=List.take_of_length_le (by rw[H.out];omega);have h:=I.out;rw[e]at h;exact h
   clear F;go_wp2_with fail;go_ret;exact⟨_,_,rfl,Y.out,j⟩
end Go.Proofs.YtahibkjkpmdhgaaGreatDoor
