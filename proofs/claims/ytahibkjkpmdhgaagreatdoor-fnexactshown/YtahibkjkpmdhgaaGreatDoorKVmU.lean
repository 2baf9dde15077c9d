import Derived.Test.YtahibkjkpmdhgaaGreatDoorKVmHa
import Derived.Laws.StructEq
set_option maxRecDepth 100000
set_option maxHeartbeats 2000000
namespace Go.Proofs.YtahibkjkpmdhgaaGreatDoor
open Go.RowKit
theorem Vw (ty nn:Int) (tx:ByteArray) (W:World):(Op.equalIn 10000 132 (.agg #[.int .i64 ty,.int .i64 nn,.string tx]) (.agg #[.int .i64 0,.int .i64 0,.string ⟨#[]⟩])).run Tryz.prog W = .ok (E9 ⟨ty,nn,tx⟩) W:=by
 have d:=Tryz.underlying3;have c:=Tryz.underlying2;have f:=Tryz.underlying9;have a:Tryz.prog.underlying 132=some (.struct (Tryz.prog.fieldsOf 132)):=OA
 have b:Tryz.prog.stoodInHeld 132=false:=OA
 rw[show (10000:Nat)=9999+1 from rfl,run_equalIn_agg W 9999 132 _ _ a b];simp only[Program.fieldsOf,Tryz.underlying132];unfold E9;go_simp;by_cases h1:ty=0 <;> by_cases h2:nn=0 <;> by_cases h3:tx.toList=[] <;> simp[h1,h2,h3]
theorem Mh : Tryz.prog.eqGuardType Tryz.prog.depth 132=false:=OA
def Ge (v:Ea):Prop := -9223372036854775808<=v.n/\v.n<=9223372036854775807
theorem Yn (w:World) (a b c:Value) (t:TypeId):∃ Z,w.alloc (.cells #[a,b,c] t)=Z/\Z.heap.size=w.heap.size+1/\OH w Z/\∀ U,OH Z U->U.cell? (OK w 0)=some a/\U.cell? (OK w 1)=some b/\U.cell? (OK w 2)=some c:=by
 refine⟨_,rfl,World.size_alloc _ _,(Below.refl _ w).alloc (Nat.le_refl _) _,fun U hU => ?_⟩;have h:U.heap[w.heap.size]? = some (.cells #[a,b,c] t):=(hU.block _ (by rw[World.size_alloc];omega)).trans (Ae w _);exact⟨by rw[Lib.cell_of_heap h];rfl,by rw[Lib.cell_of_heap h];rfl,by rw[Lib.cell_of_heap h];rfl⟩
theorem Qed (vs:List Ea) (s:List Int) (x:ByteArray) (hxs:x.size=s.length) (hg:∀ k (h:k < s.length) (h':k < x.size),s[k]=(x[k].toNat:Int)) (hr:∀ v ∈ vs,Ge v) (hl:vs.length<=1048576) (hsl:s.length<=1048576) (a:Option Addr) (cap:Nat) (w:World) (hV:D6 w (.slice a vs.length cap) vs) :
  Calls Tryz.prog 100 #[.slice a vs.length cap,.string x] w (Eh (Cg s vs) w):=by
 have HV:Hid (∀ U,OH w U->D6 U (.slice a vs.length cap) vs):=fun U hU=>Cj hV hU
 have X:Hid (∀ k (h:k < s.length) (h':k < x.size),s[k]=(x[k].toNat:Int)):=hg;have Y:Hid (∀ v ∈ vs,Ge v):=hr;have u:Hid (x.size=s.length):=hxs;obtain⟨n,D⟩:∃ n,Hid (vs.length=n):=⟨_,(rfl:vs.length=_)⟩;rw[D.out]at hl |-
 clear hV hg hr;have ae:x.size<=1048576:=Ou
 clear hxs hsl;by_cases hn:n=x.size
 ·have N:((n:Int) != (x.size:Int))=false:=by simp[hn]
  have I:Hid (n=x.size):=hn;clear hn;go_enter Tryz.func100,Tryz.ntmps100;go_wp2_with fail;go_loopw [14] (fun t wr => ∃ i:Nat,i<=n/\t = .int .i64 (i:Int)/\OH w wr/\Hid (∀ k (_:k < i) (h1:k < s.length) (h2:k < vs.length),vs[k].type=s[k]/\A4 vs[k]=true)) (fun t _=>n - (intOf t).toNat);case atStart=>exact⟨0,by omega,rfl,Below.refl _ _,fun k h=>Ou⟩
  case round =>
   obtain⟨i,hi,rfl,l,P⟩:=hrel;have O:=l.size;by_cases hlt:i < n
   ·have G:(i:Int) < (n:Int):=Ou;have ad:(i:Int) < (x.size:Int):=(by have:=I.out;omega);have H:i < x.size:=Ou;have m:i < vs.length:=(by rw[D.out];exact hlt);have z:i < s.length:=(by rw[<- u.out];exact H);obtain⟨a',c',e,Q⟩:=HV.out wr l;injection e with e e2 e3;subst e e3;obtain⟨gv,ev,aa,J⟩:=Q i m;subst ev;have R:=J 0 Ou;have V:=J 1 Ou;have W:=J 2 Ou;simp only[En,List.getElem?_cons_zero,List.getElem?_cons_succ,Nat.add_zero]at R V W;obtain⟨b,g⟩:∃ v,Hid (vs[i]=v):=⟨_,(rfl:vs[i]=_)⟩;rw[g.out]at R V W;have E:Hid (Ge b):=(by rw[Hid,<- g.out];exact Y.out _ (List.getElem_mem m));obtain⟨y,hy⟩:∃ y,x[i]=y:=⟨_,rfl⟩;obtain⟨T,r⟩:∃ T,Hid ((y.toNat:Int)=T):=⟨_,(rfl:(y.toNat:Int)=_)⟩;have K:Hid (s[i]=T):=(by rw[Hid,X.out i z H,hy];exact r.out);have af:y.toNat < 256:=y.toNat_lt;have ab:IntKind.i64.wrap ((y.toNat:Nat):Int)=T:=(by rw[IntKind.wrap_i64];have:=r.out;omega);have ac:wrap64 ((y.toNat:Nat):Int)=T:=(by rw[IntWalk.wrap64_in _ Ou];exact r.out);clear Q J e2;obtain⟨Z,hZ,ag,F,p⟩:=Yn wr (.int .i64 b.type) (.int .i64 b.n) (.string b.text) 132;have o:Hid (∀ U,OH Z U->(fun w'=>w'.cell? (OK wr 0)=some (.int .i64 b.type)/\w'.cell? (OK wr 1)=some (.int .i64 b.n)/\w'.cell? (OK wr 2)=some (.string b.text)) U):=p;have d:Hid (OH w Z):=l.trans (F.mono O);clear p F;cases hTt:(b.type != T) with
    | true =>
     have L:=o.out Z (Below.refl _ _);have B:=o.out Z.drew (Below.refl _ _).drew;go_wp2_with fail;refine wp_region_held_drew (S:=fun w'=>w'.cell? (OK wr 0)=some (.int .i64 b.type)/\w'.cell? (OK wr 1)=some (.int .i64 b.n)/\w'.cell? (OK wr 2)=some (.string b.text)) OA (B) fun _=>?_
     refine Tk 0 (.pointer (some (OK wr 0))) ?_;refine Tk 1 (.int .i64 b.type) ?_;refine Tk 2 (.string x) ?_;(try simp[Act.put]);refine Tk 3 (.int .i64 (i:Int)) ?_;refine Tk 4 (.int .u8 (y.toNat:Int)) ?_;refine Tk 5 (.int .i64 T) ?_;(try simp[Act.put]);refine Tk 6 (.bool true) ?_;refine Tk 7 (.bool true) ?_;refine Ts 8 ?_;(try simp[Act.put]);refine Ts 9 ?_;refine Ts 10 ?_;refine Tk 11 (.bool true) ?_;(try simp[Act.put]);refine wpAnyH_done OA ?_ _;go_wp2_with fail;go_ret;refine⟨false,rfl,⟨fun h=>by simp at h,fun h => ?_⟩,d.out.drew⟩;have C:=h.2 i z m;rw[K.out,g.out]at C;have h6:b.type≠T:=(by simpa using hTt);exact absurd C.1 h6
    | false =>
     have L:=o.out Z (Below.refl _ _);have B:=o.out Z.drew (Below.refl _ _).drew;cases hvv:A4 b with
     | true =>
      have f:Hid (A4 ⟨b.type,b.n,b.text⟩=true):=hvv;clear hvv;go_wp2_with fail;refine wp_region_held_drew (S:=fun w'=>w'.cell? (OK wr 0)=some (.int .i64 b.type)/\w'.cell? (OK wr 1)=some (.int .i64 b.n)/\w'.cell? (OK wr 2)=some (.string b.text)) OA (B) fun _=>?_
      refine Tk 0 (.pointer (some (OK wr 0))) ?_;refine Tk 1 (.int .i64 b.type) ?_;refine Tk 2 (.string x) ?_;(try simp[Act.put]);refine Tk 3 (.int .i64 (i:Int)) ?_;refine Tk 4 (.int .u8 (y.toNat:Int)) ?_;refine Tk 5 (.int .i64 T) ?_;(try simp[Act.put]);refine Tk 6 (.bool false) ?_;refine Tk 7 (.bool false) ?_;refine Tk 8 (.agg #[.int .i64 b.type,.int .i64 b.n,.string b.text]) ?_;(try simp[Act.put]);refine Tr 9 rfl fun KK p=>?_
      go_simp;(go_at_call 132;refine(El b.type b.n b.text E.out _).mono ?_;rintro e A ⟨rfl,j⟩;rw[f.out];have c:OH Z A:=((Below.refl _ Z).drew).trans j;have q:Hid (OH Z A):=c;have M:=o.out A c;clear j c);go_wp2;refine p.out _ _ (M) fun _=>?_
      clear p;(try simp[Act.put]);refine Tk 10 (.bool false) ?_;refine Tk 11 (.bool false) ?_;(try simp[Act.put]);refine wpAnyH_done OA ?_ _;clear L B o;go_wp2_with fail;go_roundw;case rel =>
       refine⟨i+1,by omega,by go_num,d.out.trans (q.out.mono d.out.size),fun k hk h1 h2 => ?_⟩;by_cases e:k=i
       ·subst e;rw[K.out,g.out];exact⟨by simpa using hTt,f.out⟩
       ·exact P.out k Ou h1 h2
      case measure=>simp[intOf];omega
     | false =>
      have f:Hid (A4 ⟨b.type,b.n,b.text⟩=false):=hvv;clear hvv;go_wp2_with fail;refine wp_region_held_drew (S:=fun w'=>w'.cell? (OK wr 0)=some (.int .i64 b.type)/\w'.cell? (OK wr 1)=some (.int .i64 b.n)/\w'.cell? (OK wr 2)=some (.string b.text)) OA (B) fun _=>?_
      refine Tk 0 (.pointer (some (OK wr 0))) ?_;refine Tk 1 (.int .i64 b.type) ?_;refine Tk 2 (.string x) ?_;(try simp[Act.put]);refine Tk 3 (.int .i64 (i:Int)) ?_;refine Tk 4 (.int .u8 (y.toNat:Int)) ?_;refine Tk 5 (.int .i64 T) ?_;(try simp[Act.put]);refine Tk 6 (.bool false) ?_;refine Tk 7 (.bool false) ?_;refine Tk 8 (.agg #[.int .i64 b.type,.int .i64 b.n,.string b.text]) ?_;(try simp[Act.put]);refine Tr 9 rfl fun KK p=>?_
      go_simp;(go_at_call 132;refine(El b.type b.n b.text E.out _).mono ?_;rintro e A ⟨rfl,j⟩;rw[f.out];have c:OH Z A:=((Below.refl _ Z).drew).trans j;have q:Hid (OH Z A):=c;have M:=o.out A c;clear j c);go_wp2;refine p.out _ _ (M) fun _=>?_
      clear p;(try simp[Act.put]);refine Tk 10 (.bool true) ?_;refine Tk 11 (.bool true) ?_;(try simp[Act.put]);refine wpAnyH_done OA ?_ _;clear L B o;go_wp2_with fail;go_ret;refine⟨false,rfl,⟨fun h=>by simp at h,fun h => ?_⟩,d.out.trans (q.out.mono d.out.size)⟩;have C:=h.2 i z m;rw[K.out,g.out]at C;have h7:A4 b=false:=f.out;rw[h7]at C;exact absurd C.2 OB
   ·have G:¬ (i:Int) < (n:Int):=Ou;go_wp2_with fail;go_ret;exact⟨true,rfl,⟨fun _=>⟨by rw[D.out,I.out];exact u.out,fun k h1 h2=>P.out k (by have:=D.out;omega) h1 h2⟩,fun _=>rfl⟩,l⟩
 ·have N:((n:Int) != (x.size:Int))=true:=by simp;omega
  have I:Hid (¬ n=x.size):=hn;clear hn;go_enter Tryz.func100,Tryz.ntmps100;go_wp2_with fail;go_ret;exact⟨false,rfl,⟨fun h=>by simp at h,fun h=>absurd (D.out.symm.trans (h.1.trans u.out.symm)) I.out⟩,Below.refl _ _⟩
theorem Qeh (vs:List Ea) (s:List Int) (x:ByteArray) (hxs:x.size=s.length) (hg:∀ k (h:k < s.length) (h':k < x.size),s[k]=(x[k].toNat:Int)) (hr:∀ v ∈ vs,Ge v) (hl:vs.length<=1048576) (hsl:s.length<=1048576) (a:Option Addr) (cap:Nat) (w:World) (hV:D6 w (.slice a vs.length cap) vs) :
  Calls Tryz.prog 99 #[.slice a vs.length cap,.string x] w (Eh (Eb s vs) w):=by
 have HV:Hid (∀ U,OH w U->D6 U (.slice a vs.length cap) vs):=fun U hU=>Cj hV hU
 have HG:Hid (∀ k (h:k < s.length) (h':k < x.size),s[k]=(x[k].toNat:Int)):=hg;have HR:Hid (∀ v ∈ vs,Ge v):=hr;have J:Hid (x.size=s.length):=hxs;obtain⟨n,O⟩:∃ n,Hid (vs.length=n):=⟨_,(rfl:vs.length=_)⟩;rw[O.out]at hl |-
 clear hV hg hr;have af:x.size<=1048576:=Ou
 clear hxs hsl;by_cases hn:n=x.size
 ·have Y:((n:Int) != (x.size:Int))=false:=by simp[hn]
  have V:Hid (n=x.size):=hn;clear hn;go_enter Tryz.func99,Tryz.ntmps99;go_wp2_with fail;go_loopw [15] (fun t wr => ∃ i:Nat,i<=n/\t = .int .i64 (i:Int)/\OH w wr/\Hid (∀ k (_:k < i) (h1:k < s.length) (h2:k < vs.length),Eg s[k] vs[k]=true)) (fun t _=>n - (intOf t).toNat);case atStart=>exact⟨0,by omega,rfl,Below.refl _ _,fun k h=>Ou⟩
  case round =>
   obtain⟨i,hi,rfl,F,N⟩:=hrel;have aa:=F.size;by_cases hlt:i < n
   ·have Q:(i:Int) < (n:Int):=Ou;have ae:(i:Int) < (x.size:Int):=(by have:=V.out;omega);have R:i < x.size:=Ou;have B:i < vs.length:=(by rw[O.out];exact hlt);have G:i < s.length:=(by rw[<- J.out];exact R);obtain⟨a',c',e,hd⟩:=HV.out wr F;injection e with e e2 e3;subst e e3;obtain⟨gv,ev,ab,X⟩:=hd i B;subst ev;have v0:=X 0 Ou;have v1:=X 1 Ou;have v2:=X 2 Ou;simp only[En,List.getElem?_cons_zero,List.getElem?_cons_succ,Nat.add_zero]at v0 v1 v2;obtain⟨b,l⟩:∃ v,Hid (vs[i]=v):=⟨_,(rfl:vs[i]=_)⟩;rw[l.out]at v0 v1 v2;have D:Hid (Ge b):=(by rw[Hid,<- l.out];exact HR.out _ (List.getElem_mem B));obtain⟨y,hy⟩:∃ y,x[i]=y:=⟨_,rfl⟩;obtain⟨T,u⟩:∃ T,Hid ((y.toNat:Int)=T):=⟨_,(rfl:(y.toNat:Int)=_)⟩;have I:Hid (s[i]=T):=(by rw[Hid,HG.out i G R,hy];exact u.out);have ag:y.toNat < 256:=y.toNat_lt;have ac:IntKind.i64.wrap ((y.toNat:Nat):Int)=T:=(by rw[IntKind.wrap_i64];have:=u.out;omega);have ad:wrap64 ((y.toNat:Nat):Int)=T:=(by rw[IntWalk.wrap64_in _ Ou];exact u.out);clear hd X e2;obtain⟨Z,hZ,ah,P,r⟩:=Yn wr (.int .i64 b.type) (.int .i64 b.n) (.string b.text) 132;have j:Hid (∀ U,OH Z U->(fun w'=>w'.cell? (OK wr 0)=some (.int .i64 b.type)/\w'.cell? (OK wr 1)=some (.int .i64 b.n)/\w'.cell? (OK wr 2)=some (.string b.text)) U):=r;have d:Hid (OH w Z):=F.trans (P.mono aa);clear r P;cases hT0:((y.toNat:Int) != 0) with
    | true =>
     have E:Hid (T≠0):=(by rw[Hid,<- u.out];simpa using hT0);cases hTt:(b.type != T) with
     | true =>
      have C:=j.out Z (Below.refl _ _);have m:=j.out Z.drew (Below.refl _ _).drew;go_wp2_with fail;refine wp_region_held_drew (S:=fun w'=>w'.cell? (OK wr 0)=some (.int .i64 b.type)/\w'.cell? (OK wr 1)=some (.int .i64 b.n)/\w'.cell? (OK wr 2)=some (.string b.text)) OA (m) fun _=>?_
      refine Tk 0 (.bool true) ?_;refine Tk 1 (.bool true) ?_;refine Tk 2 (.pointer (some (OK wr 0))) ?_;(try simp[Act.put]);refine Tk 3 (.int .i64 b.type) ?_;refine Tk 4 (.string x) ?_;refine Tk 5 (.int .i64 (i:Int)) ?_;(try simp[Act.put]);refine Tk 6 (.int .u8 (y.toNat:Int)) ?_;refine Tk 7 (.int .i64 T) ?_;refine Tk 8 (.bool true) ?_;(try simp[Act.put]);refine Tk 9 (.bool true) ?_;refine Tk 10 (.bool true) ?_;refine Ts 11 ?_;(try simp[Act.put]);refine Ts 12 ?_;refine Ts 13 ?_;refine Ts 14 ?_;(try simp[Act.put]);refine Ts 15 ?_;refine Ts 16 ?_;refine Ts 17 ?_;(try simp[Act.put]);refine Ts 18 ?_;refine Tk 19 (.bool true) ?_;(try simp[Act.put]);refine wpAnyH_done OA ?_ _;go_wp2_with fail;go_ret;refine⟨false,rfl,⟨fun h=>by simp at h,fun h => ?_⟩,d.out.drew⟩;have H:=h.2 i G B;rw[I.out,l.out]at H;have h6:b.type≠T:=(by simpa using hTt);simp[Eg,h6,E.out]at H
     | false =>
      cases hz:E9 b with
      | true =>
       have z:∀ W,(Op.equalIn 10000 132 (.agg #[.int .i64 b.type,.int .i64 b.n,.string b.text]) (.agg #[.int .i64 0,.int .i64 0,.string ⟨#[]⟩])).run Tryz.prog W = .ok true W:=fun W=>by rw[Vw b.type b.n b.text W];exact congrArg (Result.ok · W) hz
       have A:=Mh;have p:Hid (E9 b=true):=hz;clear hz;have C:=j.out Z (Below.refl _ _);have m:=j.out Z.drew (Below.refl _ _).drew;go_wp2_with fail;refine wp_region_held_drew (S:=fun w'=>w'.cell? (OK wr 0)=some (.int .i64 b.type)/\w'.cell? (OK wr 1)=some (.int .i64 b.n)/\w'.cell? (OK wr 2)=some (.string b.text)) OA (m) fun _=>?_
       refine Tk 0 (.bool true) ?_;refine Tk 1 (.bool true) ?_;refine Tk 2 (.pointer (some (OK wr 0))) ?_;(try simp[Act.put]);refine Tk 3 (.int .i64 b.type) ?_;refine Tk 4 (.string x) ?_;refine Tk 5 (.int .i64 (i:Int)) ?_;(try simp[Act.put]);refine Tk 6 (.int .u8 (y.toNat:Int)) ?_;refine Tk 7 (.int .i64 T) ?_;refine Tk 8 (.bool false) ?_;(try simp[Act.put]);refine Tk 9 (.bool false) ?_;refine Tk 10 (.bool false) ?_;refine Tk 11 (.agg #[.int .i64 b.type,.int .i64 b.n,.string b.text]) ?_;(try simp[Act.put]);refine Tk 12 (.agg #[.int .i64 0,.int .i64 0,.string ⟨#[]⟩]) ?_;refine Tk 13 (.bool false) ?_;refine Tk 14 (.bool false) ?_;(try simp[Act.put]);refine Ts 15 ?_;refine Ts 16 ?_;refine Ts 17 ?_;(try simp[Act.put]);refine Tk 18 (.bool false) ?_;refine Tk 19 (.bool false) ?_;(try simp[Act.put]);refine wpAnyH_done OA ?_ _;clear C m j;go_wp2_with fail;go_roundw;case rel =>
        refine⟨i+1,by omega,by go_num,d.out.drew,fun k hk h1 h2 => ?_⟩;by_cases e:k=i
        ·subst e;rw[I.out,l.out];have L:b.type=T:=(by simpa using hTt);simp[Eg,L,p.out]
        ·exact N.out k Ou h1 h2
       case measure=>simp[intOf];omega
      | false =>
       have z:∀ W,(Op.equalIn 10000 132 (.agg #[.int .i64 b.type,.int .i64 b.n,.string b.text]) (.agg #[.int .i64 0,.int .i64 0,.string ⟨#[]⟩])).run Tryz.prog W = .ok false W:=fun W=>by rw[Vw b.type b.n b.text W];exact congrArg (Result.ok · W) hz
       have A:=Mh;have p:Hid (E9 b=false):=hz;clear hz;have C:=j.out Z (Below.refl _ _);have m:=j.out Z.drew (Below.refl _ _).drew;cases hvv:A4 b with
       | true =>
        have f:Hid (A4 ⟨b.type,b.n,b.text⟩=true):=hvv;clear hvv;go_wp2_with fail;refine wp_region_held_drew (S:=fun w'=>w'.cell? (OK wr 0)=some (.int .i64 b.type)/\w'.cell? (OK wr 1)=some (.int .i64 b.n)/\w'.cell? (OK wr 2)=some (.string b.text)) OA (m) fun _=>?_
        refine Tk 0 (.bool true) ?_;refine Tk 1 (.bool true) ?_;refine Tk 2 (.pointer (some (OK wr 0))) ?_;(try simp[Act.put]);refine Tk 3 (.int .i64 b.type) ?_;refine Tk 4 (.string x) ?_;refine Tk 5 (.int .i64 (i:Int)) ?_;(try simp[Act.put]);refine Tk 6 (.int .u8 (y.toNat:Int)) ?_;refine Tk 7 (.int .i64 T) ?_;refine Tk 8 (.bool false) ?_;(try simp[Act.put]);refine Tk 9 (.bool false) ?_;refine Tk 10 (.bool false) ?_;refine Tk 11 (.agg #[.int .i64 b.type,.int .i64 b.n,.string b.text]) ?_;(try simp[Act.put]);refine Tk 12 (.agg #[.int .i64 0,.int .i64 0,.string ⟨#[]⟩]) ?_;refine Tk 13 (.bool true) ?_;refine Tk 14 (.bool true) ?_;(try simp[Act.put]);refine Tk 15 (.agg #[.int .i64 b.type,.int .i64 b.n,.string b.text]) ?_;(try simp[Act.put]);refine Tr 16 rfl fun KK r=>?_
        go_simp;(go_at_call 132;refine(El b.type b.n b.text D.out _).mono ?_;rintro e q ⟨rfl,g⟩;rw[f.out];have c:OH Z q:=((Below.refl _ Z).drew).trans g;have o:Hid (OH Z q):=c;have K:=j.out q c;clear g c);go_wp2;refine r.out _ _ (K) fun _=>?_
        clear r;(try simp[Act.put]);refine Tk 17 (.bool false) ?_;refine Tk 18 (.bool false) ?_;refine Tk 19 (.bool false) ?_;(try simp[Act.put]);refine wpAnyH_done OA ?_ _;clear C m j;go_wp2_with fail;go_roundw;case rel =>
         refine⟨i+1,by omega,by go_num,d.out.trans (o.out.mono d.out.size),fun k hk h1 h2 => ?_⟩;by_cases e:k=i
         ·subst e;rw[I.out,l.out];have L:b.type=T:=(by simpa using hTt);have M:A4 b=true:=f.out;simp[Eg,L,M]
         ·exact N.out k Ou h1 h2
        case measure=>simp[intOf];omega
       | false =>
        have f:Hid (A4 ⟨b.type,b.n,b.text⟩=false):=hvv;clear hvv;go_wp2_with fail;refine wp_region_held_drew (S:=fun w'=>w'.cell? (OK wr 0)=some (.int .i64 b.type)/\w'.cell? (OK wr 1)=some (.int .i64 b.n)/\w'.cell? (OK wr 2)=some (.string b.text)) OA (m) fun _=>?_
        refine Tk 0 (.bool true) ?_;refine Tk 1 (.bool true) ?_;refine Tk 2 (.pointer (some (OK wr 0))) ?_;(try simp[Act.put]);refine Tk 3 (.int .i64 b.type) ?_;refine Tk 4 (.string x) ?_;refine Tk 5 (.int .i64 (i:Int)) ?_;(try simp[Act.put]);refine Tk 6 (.int .u8 (y.toNat:Int)) ?_;refine Tk 7 (.int .i64 T) ?_;refine Tk 8 (.bool false) ?_;(try simp[Act.put]);refine Tk 9 (.bool false) ?_;refine Tk 10 (.bool false) ?_;refine Tk 11 (.agg #[.int .i64 b.type,.int .i64 b.n,.string b.text]) ?_;(try simp[Act.put]);refine Tk 12 (.agg #[.int .i64 0,.int .i64 0,.string ⟨#[]⟩]) ?_;refine Tk 13 (.bool true) ?_;refine Tk 14 (.bool true) ?_;(try simp[Act.put]);refine Tk 15 (.agg #[.int .i64 b.type,.int .i64 b.n,.string b.text]) ?_;(try simp[Act.put]);refine Tr 16 rfl fun KK r=>?_
        go_simp;(go_at_call 132;refine(El b.type b.n b.text D.out _).mono ?_;rintro e q ⟨rfl,g⟩;rw[f.out];have c:OH Z q:=((Below.refl _ Z).drew).trans g;have o:Hid (OH Z q):=c;have K:=j.out q c;clear g c);go_wp2;refine r.out _ _ (K) fun _=>?_
        clear r;(try simp[Act.put]);refine Tk 17 (.bool true) ?_;refine Tk 18 (.bool true) ?_;refine Tk 19 (.bool true) ?_;(try simp[Act.put]);refine wpAnyH_done OA ?_ _;clear C m j;go_wp2_with fail;go_ret;refine⟨false,rfl,⟨fun h=>by simp at h,fun h => ?_⟩,d.out.trans (o.out.mono d.out.size)⟩;have H:=h.2 i G B;rw[I.out,l.out]at H;have M:A4 b=false:=f.out;simp[Eg,M,p.out]at H
    | false =>
     have E:Hid (T=0):=(by rw[Hid,<- u.out];simpa using hT0);cases hz:E9 b with
     | true =>
      have z:∀ W,(Op.equalIn 10000 132 (.agg #[.int .i64 b.type,.int .i64 b.n,.string b.text]) (.agg #[.int .i64 0,.int .i64 0,.string ⟨#[]⟩])).run Tryz.prog W = .ok true W:=fun W=>by rw[Vw b.type b.n b.text W];exact congrArg (Result.ok · W) hz
      have A:=Mh;have p:Hid (E9 b=true):=hz;clear hz;have C:=j.out Z (Below.refl _ _);have m:=j.out Z.drew (Below.refl _ _).drew;go_wp2_with fail;refine wp_region_held_drew (S:=fun w'=>w'.cell? (OK wr 0)=some (.int .i64 b.type)/\w'.cell? (OK wr 1)=some (.int .i64 b.n)/\w'.cell? (OK wr 2)=some (.string b.text)) OA (m) fun _=>?_
      refine Tk 0 (.bool false) ?_;refine Tk 1 (.bool false) ?_;refine Ts 2 ?_;(try simp[Act.put]);refine Ts 3 ?_;refine Ts 4 ?_;refine Ts 5 ?_;(try simp[Act.put]);refine Ts 6 ?_;refine Ts 7 ?_;refine Ts 8 ?_;(try simp[Act.put]);refine Tk 9 (.bool false) ?_;refine Tk 10 (.bool false) ?_;refine Tk 11 (.agg #[.int .i64 b.type,.int .i64 b.n,.string b.text]) ?_;(try simp[Act.put]);refine Tk 12 (.agg #[.int .i64 0,.int .i64 0,.string ⟨#[]⟩]) ?_;refine Tk 13 (.bool false) ?_;refine Tk 14 (.bool false) ?_;(try simp[Act.put]);refine Ts 15 ?_;refine Ts 16 ?_;refine Ts 17 ?_;(try simp[Act.put]);refine Tk 18 (.bool false) ?_;refine Tk 19 (.bool false) ?_;(try simp[Act.put]);refine wpAnyH_done OA ?_ _;clear C m j;go_wp2_with fail;go_roundw;case rel =>
       refine⟨i+1,by omega,by go_num,d.out.drew,fun k hk h1 h2 => ?_⟩;by_cases e:k=i
       ·subst e;rw[I.out,l.out];have L:T=0:=E.out;simp[Eg,L,p.out]
       ·exact N.out k Ou h1 h2
      case measure=>simp[intOf];omega
     | false =>
      have z:∀ W,(Op.equalIn 10000 132 (.agg #[.int .i64 b.type,.int .i64 b.n,.string b.text]) (.agg #[.int .i64 0,.int .i64 0,.string ⟨#[]⟩])).run Tryz.prog W = .ok false W:=fun W=>by rw[Vw b.type b.n b.text W];exact congrArg (Result.ok · W) hz
      have A:=Mh;have p:Hid (E9 b=false):=hz;clear hz;have C:=j.out Z (Below.refl _ _);have m:=j.out Z.drew (Below.refl _ _).drew;cases hvv:A4 b with
      | true =>
       have f:Hid (A4 ⟨b.type,b.n,b.text⟩=true):=hvv;clear hvv;go_wp2_with fail;refine wp_region_held_drew (S:=fun w'=>w'.cell? (OK wr 0)=some (.int .i64 b.type)/\w'.cell? (OK wr 1)=some (.int .i64 b.n)/\w'.cell? (OK wr 2)=some (.string b.text)) OA (m) fun _=>?_
       refine Tk 0 (.bool false) ?_;refine Tk 1 (.bool false) ?_;refine Ts 2 ?_;(try simp[Act.put]);refine Ts 3 ?_;refine Ts 4 ?_;refine Ts 5 ?_;(try simp[Act.put]);refine Ts 6 ?_;refine Ts 7 ?_;refine Ts 8 ?_;(try simp[Act.put]);refine Tk 9 (.bool false) ?_;refine Tk 10 (.bool false) ?_;refine Tk 11 (.agg #[.int .i64 b.type,.int .i64 b.n,.string b.text]) ?_;(try simp[Act.put]);refine Tk 12 (.agg #[.int .i64 0,.int .i64 0,.string ⟨#[]⟩]) ?_;refine Tk 13 (.bool true) ?_;refine Tk 14 (.bool true) ?_;(try simp[Act.put]);refine Tk 15 (.agg #[.int .i64 b.type,.int .i64 b.n,.string b.text]) ?_;(try simp[Act.put]);refine Tr 16 rfl fun KK r=>?_
       go_simp;(go_at_call 132;refine(El b.type b.n b.text D.out _).mono ?_;rintro e q ⟨rfl,g⟩;rw[f.out];have c:OH Z q:=((Below.refl _ Z).drew).trans g;have o:Hid (OH Z q):=c;have K:=j.out q c;clear g c);go_wp2;refine r.out _ _ (K) fun _=>?_
       clear r;(try simp[Act.put]);refine Tk 17 (.bool false) ?_;refine Tk 18 (.bool false) ?_;refine Tk 19 (.bool false) ?_;(try simp[Act.put]);refine wpAnyH_done OA ?_ _;clear C m j;go_wp2_with fail;go_roundw;case rel =>
        refine⟨i+1,by omega,by go_num,d.out.trans (o.out.mono d.out.size),fun k hk h1 h2 => ?_⟩;by_cases e:k=i
        ·subst e;rw[I.out,l.out];have L:T=0:=E.out;have M:A4 b=true:=f.out;simp[Eg,L,M]
        ·exact N.out k Ou h1 h2
       case measure=>simp[intOf];omega
      | false =>
       have f:Hid (A4 ⟨b.type,b.n,b.text⟩=false):=hvv;clear hvv;go_wp2_with fail;refine wp_region_held_drew (S:=fun w'=>w'.cell? (OK wr 0)=some (.int .i64 b.type)/\w'.cell? (OK wr 1)=some (.int .i64 b.n)/\w'.cell? (OK wr 2)=some (.string b.text)) OA (m) fun _=>?_
       refine Tk 0 (.bool false) ?_;refine Tk 1 (.bool false) ?_;refine Ts 2 ?_;(try simp[Act.put]);refine Ts 3 ?_;refine Ts 4 ?_;refine Ts 5 ?_;(try simp[Act.put]);refine Ts 6 ?_;refine Ts 7 ?_;refine Ts 8 ?_;(try simp[Act.put]);refine Tk 9 (.bool false) ?_;refine Tk 10 (.bool false) ?_;refine Tk 11 (.agg #[.int .i64 b.type,.int .i64 b.n,.string b.text]) ?_;(try simp[Act.put]);refine Tk 12 (.agg #[.int .i64 0,.int .i64 0,.string ⟨#[]⟩]) ?_;refine Tk 13 (.bool true) ?_;refine Tk 14 (.bool true) ?_;(try simp[Act.put]);refine Tk 15 (.agg #[.int .i64 b.type,.int .i64 b.n,.string b.text]) ?_;(try simp[Act.put]);refine Tr 16 rfl fun KK r=>?_
       go_simp;(go_at_call 132;refine(El b.type b.n b.text D.out _).mono ?_;rintro e q ⟨rfl,g⟩;rw[f.out];have c:OH Z q:=((Below.refl _ Z).drew).trans g;have o:Hid (OH Z q):=c;have K:=j.out q c;clear g c);go_wp2;refine r.out _ _ (K) fun _=>?_
       clear r;(try simp[Act.put]);refine Tk 17 (.bool true) ?_;refine Tk 18 (.bool true) ?_;refine Tk 19 (.bool true) ?_;(try simp[Act.put]);refine wpAnyH_done OA ?_ _;clear C m j;go_wp2_with fail;go_ret;refine⟨false,rfl,⟨fun h=>by simp at h,fun h => ?_⟩,d.out.trans (o.out.mono d.out.size)⟩;have H:=h.2 i G B;rw[I.out,l.out]at H;have M:A4 b=false:=f.out;simp[Eg,M,p.out]at H
   ·have Q:¬ (i:Int) < (n:Int):=Ou;go_wp2_with fail;go_ret;exact⟨true,rfl,⟨fun _=>⟨by rw[O.out,V.out];exact J.out,fun k h1 h2=>N.out k (by have:=O.out;omega) h1 h2⟩,fun _=>rfl⟩,F⟩
 ·have Y:((n:Int) != (x.size:Int))=true:=by simp;omega
  have V:Hid (¬ n=x.size):=hn;clear hn;go_enter Tryz.func99,Tryz.ntmps99;go_wp2_with fail;go_ret;exact⟨false,rfl,⟨fun h=>by simp at h,fun h=>absurd (O.out.symm.trans (h.1.trans J.out.symm)) V.out⟩,Below.refl _ _⟩
end Go.Proofs.YtahibkjkpmdhgaaGreatDoor
