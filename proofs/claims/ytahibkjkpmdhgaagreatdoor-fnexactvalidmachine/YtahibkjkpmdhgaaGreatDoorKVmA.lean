import Derived.Test.YtahibkjkpmdhgaaGreatDoorKCgB
import Derived.Test.YtahibkjkpmdhgaaGreatDoorKBoxC
set_option maxRecDepth 100000
set_option maxHeartbeats 4000000
namespace Go.Proofs.YtahibkjkpmdhgaaGreatDoor
open Go.RowKit
structure Fa where
 code:Int
 fn:Int
 at':Int
 slots:List Dy
 stack:List Dy
structure Ea where
 codes:List (List Ae)
 args:List ByteArray
 outs:List ByteArray
 frames:List Fa
 steps:Int
 looks:Int
 kind:Int
 name:ByteArray
 hold:ByteArray
 over:Bool
 fin:Int
 text:ByteArray
 files:List Du
 said:List ByteArray
def F8 : Fa:=⟨0,0,0,[],[]⟩
def Cx (l:List ByteArray):Bool:=l.all (fun t=>decide ((t.size:Int)<=3000))
def Dk (l:List ByteArray) (M:Nat):Prop:=l.length<=M/\Cx l=true
def Fh (m:Ea):Prop :=
 (m.codes.length+m.args.length+m.outs.length+m.frames.length=0/\m.looks=0/\m.kind=0/\m.name.toList=[]/\m.hold.toList=[])/\(0<=m.fin/\m.fin<=5)/\(m.text.size:Int)<=3000/\(m.fin=0\/m.files.length=0)
def Cy (m:Ea):Prop :=
 (m.kind=0/\m.name.toList=[]/\m.hold.toList=[]) \/
  (1<=m.kind/\m.kind<=4/\((m.kind=3/\Cw m.name=true)\/(m.kind≠3/\Dc m.name=true))/\(m.hold.size:Int)<=3000/\(m.hold.toList=[]\/m.kind=4)/\1<=m.looks)
def Bv (m:Ea) (k:Nat):Option (Int × Int) :=
 if k+1 < m.frames.length then
  (if (m.frames.getD (k+1) F8).code=(m.frames.getD k F8).code then some (9,(m.frames.getD (k+1) F8).fn) else some (8,4))
 else if m.kind=0 then none else some (8,m.kind)
def Et (v:Dy):Bool:=v.type == 0 && v.n == 0 && v.text.toList.isEmpty
def D3 (t:Int) (v:Dy):Bool:=(decide (t=0) || decide (v.type=t)) && (Et v || A4 v)
def Ds (s:List Int) (vs:List Dy):Prop:=vs.length=s.length/\∀ i (h1:i < s.length) (h2:i < vs.length),D3 s[i] vs[i]=true
def Cb (s:List Int) (vs:List Dy):Prop:=vs.length=s.length/\∀ i (h1:i < s.length) (h2:i < vs.length),vs[i].type=s[i]/\A4 vs[i]=true
def Bf (c:List Ae):Prop:=C5 c (0,0,0)
def C4 (c:List Ae) (op a:Int):Int:=if op=9 then (c.getD a.toNat A6).result else Ci a
def Fb (b:Option (Int × Int)) (f:Fa) (c:List Ae) (fn:Ae) (X:List Ao):Prop :=
 0<=f.at'/\f.at' < (fn.ins.length:Int)/\∃ s t,Aj X f.at'.toNat = .known s t/\Ds s f.slots /\
  match b with
  | none=>Cb t f.stack
  | some (op,a)=>1<=f.at'/\(∃ s0 t0,Aj X (f.at'.toNat - 1) = .known s0 t0)/\(fn.ins.getD (f.at'.toNat - 1) Cv).op=op/\(fn.ins.getD (f.at'.toNat - 1) Cv).a=a/\Cb (if C4 c op a=0 then t else t.dropLast) f.stack
def Dg (m:Ea) (k:Nat):Int:=if k=0 then -1 else (m.frames.getD (k - 1) F8).code
def Lc (c:List Ae) (k:Int):Prop:=0<=k/\k < (c.length:Int)/\A9 (c.getD k.toNat A6)=true
def Hp (m:Ea):Prop :=
 1<=m.frames.length/\m.frames.length<=40/\(m.frames.getD (m.frames.length - 1) F8).code=(m.codes.length:Int) - 1 /\
  ∀ k (hk:k < m.frames.length),(m.frames[k].code=Dg m k\/m.frames[k].code=Dg m k+1)/\0<=m.frames[k].code/\m.frames[k].code < (m.codes.length:Int)/\0<=m.frames[k].fn/\m.frames[k].fn < ((m.codes.getD m.frames[k].code.toNat []).length:Int)/\(m.frames[k].code≠Dg m k->Lc (m.codes.getD m.frames[k].code.toNat []) m.frames[k].fn)
def Ff (m:Ea):Prop :=
 ∀ k (hk:k < m.frames.length),∃ X,Cl (m.codes.getD m.frames[k].code.toNat []) ((m.codes.getD m.frames[k].code.toNat []).getD m.frames[k].fn.toNat A6) X/\Fb (Bv m k) m.frames[k] (m.codes.getD m.frames[k].code.toNat []) ((m.codes.getD m.frames[k].code.toNat []).getD m.frames[k].fn.toNat A6) X
def Mx (m:Ea):Prop :=
 m.codes.length<=40/\m.args.length=m.codes.length/\Dk m.args 40/\Ft ⟨#[]⟩ m.outs=true/\(0<=m.looks/\m.looks<=100)/\m.fin=0/\m.text.toList=[]/\Cy m /\
  (∀ f ∈ m.files,∃ o ∈ m.outs,o.toList=f.name.toList)/\(∀ c ∈ m.codes,Bf c)/\Hp m/\Ff m
def J2 (m:Ea):Prop :=
 Gh m.files 20=true/\Dk m.said 50/\(0<=m.steps/\m.steps<=4000)/\((m.over=true/\Fh m)\/(m.over=false/\Mx m))
def Gf : Prop:=True
def La (l:Int) (P:Prop) (w:World) (e:Ending) (w':World):Prop := ∃ q:Int,e = .returned (.int .i64 q)/\(-1<=q/\q<=l)/\(0<=q->P)/\Below w.heap.size w w'
def Sx (xs:List ByteArray):Prop:=xs.length<=1048576/\∀ d ∈ xs,d.size<=1048576
def Sy (xs:List Dy):Prop:=xs.length<=1048576/\∀ d ∈ xs,d.text.size<=1048576
def Qc2 (xs:List Du):Prop:=xs.length<=1048576/\∀ d ∈ xs,d.name.size<=1048576/\d.text.size<=1048576
def Nx (c:List Ae):Prop:=c.length<=1048576/\∀ f ∈ c,f.name.size<=1048576/\f.params.length<=1048576/\f.ins.length<=1048576
def Q0 (cs:List (List Ae)):Prop:=cs.length<=1048576/\∀ c ∈ cs,Nx c
def Lp (f:Fa):Prop:=Sy f.slots/\Sy f.stack
def Ou (fs:List Fa):Prop:=fs.length<=1048576/\∀ f ∈ fs,Lp f
def Ch (n:Nat):Prop:=n<=9223372036854775807
theorem Vg : ∀ (xs:List ByteArray) (l:Int),0<=l -> -1<=Ig xs l/\Ig xs l<=l/\(0<=Ig xs l->∀ d ∈ xs,(d.size:Int)<=l)
 | [],l,h=>by rw[Ig];exact⟨by omega,by omega,fun _ d hd=>by simp at hd⟩
 | d::r,l,h=>by
  rw[Ig]
  split
  ·exact⟨by omega,by omega,fun h=>by omega⟩
  ·obtain⟨b,f,c⟩:=Vg r (l - (d.size:Int)) (by omega)
   refine⟨b,by omega,fun hp x a => ?_⟩
   rcases List.mem_cons.1 a with rfl|a
   ·omega
   ·have:=c hp x a;omega
theorem Vh : ∀ (xs:List Dy) (l:Int),0<=l -> -1<=Gy xs l/\Gy xs l<=l/\(0<=Gy xs l->∀ d ∈ xs,(d.text.size:Int)<=l)
 | [],l,h=>by rw[Gy];exact⟨by omega,by omega,fun _ d hd=>by simp at hd⟩
 | d::r,l,h=>by
  rw[Gy]
  split
  ·exact⟨by omega,by omega,fun h=>by omega⟩
  ·obtain⟨b,f,c⟩:=Vh r (l - (d.text.size:Int)) (by omega)
   refine⟨b,by omega,fun hp x a => ?_⟩
   rcases List.mem_cons.1 a with rfl|a
   ·omega
   ·have:=c hp x a;omega
theorem S5 {xs:List ByteArray} {v:Value} {l:Int} (h0:0<=l) (h1:l<=1048576) (hn:Ch xs.length/\∀ d ∈ xs,Ch d.size) (w:World) (hN:Ep w v xs):Calls Tryz.prog 17 #[v,.int .i64 l] w (La l (Sx xs) w):=by
 refine(O0 xs v l h0 h1 hn.1 hn.2 w hN).mono ?_;rintro e w' ⟨rfl,a⟩;by_cases h:l - (xs.length:Int) < 0
 ·rw[if_pos h];exact⟨_,rfl,⟨by omega,by omega⟩,fun h=>by omega,a⟩
 ·rw[if_neg h];obtain⟨c,f,b⟩:=Vg xs (l - (xs.length:Int)) (by omega);exact⟨_,rfl,⟨c,by omega⟩,fun hq=>⟨by omega,fun d hd=>by have:=b hq d hd;omega⟩,a⟩
theorem Z3 {xs:List Dy} {v:Value} {l:Int} (h0:0<=l) (h1:l<=1048576) (hn:Ch xs.length/\∀ d ∈ xs,Ch d.text.size) (w:World) (hN:E9 w v xs):Calls Tryz.prog 82 #[v,.int .i64 l] w (La l (Sy xs) w):=by
 refine(Pb xs v l h0 h1 hn.1 hn.2 w hN).mono ?_;rintro e w' ⟨rfl,a⟩;by_cases h:l - (xs.length:Int) < 0
 ·rw[if_pos h];exact⟨_,rfl,⟨by omega,by omega⟩,fun h=>by omega,a⟩
 ·rw[if_neg h];obtain⟨c,f,b⟩:=Vh xs (l - (xs.length:Int)) (by omega);exact⟨_,rfl,⟨c,by omega⟩,fun hq=>⟨by omega,fun d hd=>by have:=b hq d hd;omega⟩,a⟩
theorem Qc4 {xs:List Du} {v:Value} {l:Int} (h0:0<=l) (h1:l<=1048576) (hn:Ch xs.length/\∀ d ∈ xs,Ch d.name.size/\Ch d.text.size) (w:World) (hN:Hg w v xs):Calls Tryz.prog 19 #[v,.int .i64 l] w (La l (Qc2 xs) w):=by
 refine(Q3 xs v l h0 h1 hn.1 hn.2 w hN).mono ?_;rintro e w' ⟨rfl,f⟩;obtain⟨b,c,a⟩:=Qcn xs l h0;exact⟨_,rfl,⟨b,c⟩,fun h=>⟨by have:=(a h).1;omega,fun d hd=>by have:=(a h).2 d hd;omega⟩,f⟩
theorem Qc3 {c:List Ae} {a:Option Addr} {cap:Nat} {l:Int} (h0:0<=l) (h1:l<=1048576) (hn:Ch c.length/\∀ f ∈ c,Kl f) (w:World) (hN:El w (.slice a c.length cap) c):Calls Tryz.prog 50 #[.agg #[.slice a c.length cap],.int .i64 l] w (La l (Nx c) w):=by
 refine(Uh c a cap l h0 h1 hn.1 hn.2 w hN).mono ?_;rintro e w' ⟨rfl,j⟩;obtain⟨g,i,b⟩:=Zc c l h0;refine⟨_,rfl,⟨g,i⟩,fun h=>⟨by have:=(b h).1;omega,fun d hd => ?_⟩,j⟩;obtain⟨k,m,n⟩:=(b h).2 d hd;exact⟨by omega,by omega,by omega⟩
def Fz (w:World) (v:Value) (cs:List (List Ae)):Prop :=
 ∃ a cap,v = .slice a cs.length cap/\∀ k (hk:k < cs.length),∃ g o ha hc,a=some ⟨g,o,none⟩/\g < w.heap.size/\w.cell? ⟨g,o+k,none⟩=some (.slice ha cs[k].length hc)/\El w (.slice ha cs[k].length hc) cs[k]
def Hc (w:World) (v:Value) (fs:List Fa):Prop :=
 ∃ a cap,v = .slice a fs.length cap/\∀ k (hk:k < fs.length),∃ g o sa sc ta tc,a=some ⟨g,o,none⟩/\g < w.heap.size/\(w.cell? ⟨g,o+k * 5,none⟩=some (.int .i64 fs[k].code)/\w.cell? ⟨g,o+k * 5+1,none⟩=some (.int .i64 fs[k].fn)/\w.cell? ⟨g,o+k * 5+2,none⟩=some (.int .i64 fs[k].at')/\w.cell? ⟨g,o+k * 5+3,none⟩=some (.slice sa fs[k].slots.length sc)/\w.cell? ⟨g,o+k * 5+4,none⟩=some (.slice ta fs[k].stack.length tc))/\E9 w (.slice sa fs[k].slots.length sc) fs[k].slots/\E9 w (.slice ta fs[k].stack.length tc) fs[k].stack
theorem Fz.below {w w':World} {v:Value} {cs:List (List Ae)} (h:Fz w v cs) (hb:Below w.heap.size w w'):Fz w' v cs:=by
 obtain⟨a,b,rfl,m⟩:=h;refine⟨a,b,rfl,fun k hk => ?_⟩;obtain⟨g,o,l,c,f,d,i,j⟩:=m k hk;exact⟨g,o,l,c,f,Nat.lt_of_lt_of_le d hb.size,(hb.cell (p:=⟨g,o+k,none⟩) d).trans i,j.below hb⟩
theorem Hc.below {w w':World} {v:Value} {fs:List Fa} (h:Hc w v fs) (hb:Below w.heap.size w w'):Hc w' v fs:=by
 obtain⟨a,c,rfl,r⟩:=h;refine⟨a,c,rfl,fun k hk => ?_⟩;obtain⟨g,o,s,t,u,x,m,b,⟨d,f,i,j,l⟩,n,q⟩:=r k hk;exact⟨g,o,s,t,u,x,m,Nat.lt_of_lt_of_le b hb.size,⟨(hb.cell (p:=⟨g,o+k * 5,none⟩) b).trans d,(hb.cell (p:=⟨g,o+k * 5+1,none⟩) b).trans f,(hb.cell (p:=⟨g,o+k * 5+2,none⟩) b).trans i,(hb.cell (p:=⟨g,o+k * 5+3,none⟩) b).trans j,(hb.cell (p:=⟨g,o+k * 5+4,none⟩) b).trans l⟩,C2 n hb,C2 q hb⟩
theorem Ot (q:Int):(q < 0/\Gf)\/(¬ q < 0/\Gf):=by
 simp only[Gf,and_true];omega
theorem Qch {cs:List (List Ae)} {v:Value} {l:Int} (h0:0<=l) (h1:l<=1048576) (hn:Ch cs.length/\∀ c ∈ cs,Ch c.length/\∀ f ∈ c,Kl f) (w:World) (hN:Fz w v cs):Calls Tryz.prog 16 #[v,.int .i64 l] w (La l (Q0 cs) w):=by
 have A:Hid (Fz w v cs):=hN;obtain⟨a,C,I,-⟩:=hN;subst I;have z:Hid (∀ c ∈ cs,Ch c.length/\∀ f ∈ c,Kl f):=hn.2;have F:cs.length<=9223372036854775807:=hn.1;clear hn;by_cases hl:l - (cs.length:Int) < 0
 ·go_enter Tryz.func16,Tryz.ntmps16;go_wp2;go_ret;exact⟨-1,rfl,⟨by omega,by omega⟩,fun h=>by omega,Below.refl _ _⟩
 ·go_enter Tryz.func16,Tryz.ntmps16;go_wp2;go_loopw [1,5] (fun tl tv wr => ∃ (i:Nat) (q:Int),i<=cs.length/\tv = .int .i64 (i:Int)/\tl = .int .i64 q/\(0<=q/\q<=l - (cs.length:Int))/\Hid (∀ k (_:k < i) (h2:k < cs.length),Nx cs[k])/\Below w.heap.size w wr) (fun _ tv _=>cs.length - (intOf tv).toNat);case atStart=>exact⟨0,l - (cs.length:Int),by omega,rfl,rfl,by omega,fun k h=>by omega,Below.refl _ _⟩
  case round =>
   obtain⟨i,q,O,rfl,rfl,P,s,b⟩:=hrel;have y:=b.size;by_cases hlt:i < cs.length
   ·have j:(i:Int) < (cs.length:Int):=(by omega);obtain⟨L,t,e,m⟩:=A.out.below b;injection e with e e2 e3;subst e e3;obtain⟨g,o,E,n,D,N,M,u⟩:=m i hlt;subst D;have B:Hid (∀ U,Below wr.heap.size wr U->Calls Tryz.prog 50 #[.agg #[.slice E cs[i].length n],.int .i64 q] U (La q (Nx cs[i]) U)):=fun U hU=>Qc3 (by omega) (by omega) (z.out _ (List.getElem_mem hlt)) U (u.below hU)
    clear m u;go_wp2_with (go_at_call 50;refine(B.out _ (by first|exact Below.refl _ _|exact(Below.refl _ _).drew|exact(Below.refl _ _).alloc (Nat.le_refl _) _)).mono ?_;rintro e Q ⟨r,rfl,H,p,d⟩;rcases Ot r with⟨G,J⟩|⟨G,K⟩)
    ·have _t:=J;go_ret;exact⟨-1,rfl,⟨by omega,by omega⟩,fun h=>by omega,b.trans (d.mono y)⟩
    ·have _t:=K;go_roundw;case rel =>
      refine⟨i+1,r,by omega,by go_num,rfl,by omega,fun k x h2 => ?_,b.trans (d.mono y)⟩;by_cases e:k=i
      ·subst e;exact p (by omega)
      ·exact s.out k (by omega) h2
     case measure=>simp[intOf];omega
   ·have j:¬ (i:Int) < (cs.length:Int):=(by omega);go_wp2;go_ret;exact⟨q,rfl,⟨by omega,by omega⟩,fun _=>⟨by omega,fun c m=>by obtain⟨k,x,e⟩:=List.getElem_of_mem m;rw[<- e];exact s.out k (by omega) x⟩,b⟩
theorem Qdb {f:Fa} {sa ta:Option Addr} {sc tc:Nat} {l:Int} (h0:0<=l) (h1:l<=1048576) (hn:(Ch f.slots.length/\∀ d ∈ f.slots,Ch d.text.size)/\(Ch f.stack.length/\∀ d ∈ f.stack,Ch d.text.size)) (w:World) (hS:E9 w (.slice sa f.slots.length sc) f.slots) (hT:E9 w (.slice ta f.stack.length tc) f.stack) :
  Calls Tryz.prog 51 #[.agg #[.int .i64 f.code,.int .i64 f.fn,.int .i64 f.at',.slice sa f.slots.length sc,.slice ta f.stack.length tc],.int .i64 l] w (La l (Lp f) w):=by
 obtain⟨Y,j⟩:∃ Y,w.alloc (.cells #[.int .i64 f.code,.int .i64 f.fn,.int .i64 f.at',.slice sa f.slots.length sc,.slice ta f.stack.length tc] 83)=Y:=⟨_,rfl⟩;have b:Below w.heap.size w Y:=by rw[<- j];exact Au w _
 have A:Y.heap.size=w.heap.size+1:=by rw[<- j];exact World.size_alloc _ _
 have n:Y.heap[w.heap.size]? = some (.cells #[.int .i64 f.code,.int .i64 f.fn,.int .i64 f.at',.slice sa f.slots.length sc,.slice ta f.stack.length tc] 83):=by rw[<- j];exact Af w _
 have E:Y.cell? ⟨w.heap.size,3,none⟩=some (.slice sa f.slots.length sc):=by rw[Lib.cell_of_heap n];rfl
 have u:Hid (∀ U,Below Y.heap.size Y U->U.cell? ⟨w.heap.size,4,none⟩=some (.slice ta f.stack.length tc)):=fun U hU=>(hU.cell (p:=⟨w.heap.size,4,none⟩) (by show w.heap.size < _;omega)).trans (by rw[Lib.cell_of_heap n];rfl)
 have g:Hid (Calls Tryz.prog 82 #[.slice sa f.slots.length sc,.int .i64 l] Y (La l (Sy f.slots) Y)):=Z3 h0 h1 hn.1 Y (C2 hS b);have i:Hid (∀ q:Int,0<=q->q<=1048576->∀ U,Below Y.heap.size Y U->Calls Tryz.prog 82 #[.slice ta f.stack.length tc,.int .i64 q] U (La q (Sy f.stack) U)):=fun q q0 q1 U hU=>Z3 q0 q1 hn.2 U (C2 (C2 hT b) hU)
 clear hS hT hn n;have s:Gf:=trivial;go_enter Tryz.func51,Tryz.ntmps51;go_wp2_with (first
  | (go_at_call 82;have _t:=s;clear s;refine g.out.mono ?_;rintro e t ⟨q,rfl,x,k,a⟩;have F:=u.out t a;rcases Ot q with⟨v,B⟩|⟨v,o⟩)
  | (go_at_call 82;have _t:=o;clear o;refine(i.out q (by omega) (by omega) t a).mono ?_;rintro e G ⟨r,rfl,z,m,c⟩;rcases Ot r with⟨y,C⟩|⟨y,D⟩))
 all_goals first
  | (have _t:=B;go_ret;exact⟨-1,rfl,⟨by omega,by omega⟩,fun h=>by omega,b.trans (a.mono b.size)⟩)
  | (have _t:=C;go_ret;exact⟨-1,rfl,⟨by omega,by omega⟩,fun h=>by omega,(b.trans (a.mono b.size)).trans (c.mono (by have:=a.size;omega))⟩)
  | (have _t:=D;go_ret;exact⟨r,rfl,⟨by omega,by omega⟩,fun h=>⟨k (by omega),m (by omega)⟩,(b.trans (a.mono b.size)).trans (c.mono (by have:=a.size;omega))⟩)
def Im (xs:List Dy):Prop:=Ch xs.length/\∀ d ∈ xs,Ch d.text.size
def Qz (xs:List ByteArray):Prop:=Ch xs.length/\∀ d ∈ xs,Ch d.size
structure Xf (m:Ea):Prop where
 codes:Ch m.codes.length/\∀ c ∈ m.codes,Ch c.length/\∀ f ∈ c,Kl f
 args:Qz m.args
 outs:Qz m.outs
 frames:Ch m.frames.length/\∀ f ∈ m.frames,Im f.slots/\Im f.stack
 name:Ch m.name.size
 hold:Ch m.hold.size
 text:Ch m.text.size
 files:Ch m.files.length/\∀ d ∈ m.files,Ch d.name.size/\Ch d.text.size
 said:Qz m.said
structure Io (m:Ea):Prop where
 codes:Q0 m.codes
 args:Sx m.args
 outs:Sx m.outs
 frames:Ou m.frames
 name:m.name.size<=1048576
 hold:m.hold.size<=1048576
 text:m.text.size<=1048576
 files:Qc2 m.files
 said:Sx m.said
structure Ji (w:World) (m:Ea) (ca aa oa fa ia sa:Option Addr) (cc ac oc fc ic sc:Nat):Prop where
 codes:Fz w (.slice ca m.codes.length cc) m.codes
 args:Ep w (.slice aa m.args.length ac) m.args
 outs:Ep w (.slice oa m.outs.length oc) m.outs
 frames:Hc w (.slice fa m.frames.length fc) m.frames
 files:Hg w (.slice ia m.files.length ic) m.files
 said:Ep w (.slice sa m.said.length sc) m.said
theorem Ji.below {w w':World} {m:Ea} {ca aa oa fa ia sa:Option Addr} {cc ac oc fc ic sc:Nat} (h:Ji w m ca aa oa fa ia sa cc ac oc fc ic sc) (hb:Below w.heap.size w w'):Ji w' m ca aa oa fa ia sa cc ac oc fc ic sc:=⟨h.codes.below hb,h.args.below hb,h.outs.below hb,h.frames.below hb,h.files.below hb,h.said.below hb⟩
theorem Qc5 {fs:List Fa} {v:Value} {l:Int} (h0:0<=l) (h1:l<=1048576) (hn:Ch fs.length/\∀ f ∈ fs,Im f.slots/\Im f.stack) (w:World) (hN:Hc w v fs):Calls Tryz.prog 18 #[v,.int .i64 l] w (La l (Ou fs) w):=by
 have A:Hid (Hc w v fs):=hN;obtain⟨a,C,H,-⟩:=hN;subst H;have z:Hid (∀ f ∈ fs,Im f.slots/\Im f.stack):=hn.2;have E:fs.length<=9223372036854775807:=hn.1;clear hn;by_cases hl:l - (fs.length:Int) < 0
 ·go_enter Tryz.func18,Tryz.ntmps18;go_wp2;go_ret;exact⟨-1,rfl,⟨by omega,by omega⟩,fun h=>by omega,Below.refl _ _⟩
 ·go_enter Tryz.func18,Tryz.ntmps18;go_wp2;go_loopw [1,5] (fun tl tv wr => ∃ (i:Nat) (q:Int),i<=fs.length/\tv = .int .i64 (i:Int)/\tl = .int .i64 q/\(0<=q/\q<=l - (fs.length:Int))/\Hid (∀ k (_:k < i) (h2:k < fs.length),Lp fs[k])/\Below w.heap.size w wr) (fun _ tv _=>fs.length - (intOf tv).toNat);case atStart=>exact⟨0,l - (fs.length:Int),by omega,rfl,rfl,by omega,fun k h=>by omega,Below.refl _ _⟩
  case round =>
   obtain⟨i,q,W,rfl,rfl,X,p,b⟩:=hrel;have y:=b.size;by_cases hlt:i < fs.length
   ·have j:(i:Int) < (fs.length:Int):=(by omega);obtain⟨O,s,e,m⟩:=A.out.below b;injection e with e e2 e3;subst e e3;obtain⟨g,o,K,L,M,N,D,V,⟨P,Q,R,S,T⟩,t,u⟩:=m i hlt;subst D;have B:Hid (∀ U,Below wr.heap.size wr U->Calls Tryz.prog 51 #[.agg #[.int .i64 fs[i].code,.int .i64 fs[i].fn,.int .i64 fs[i].at',.slice K fs[i].slots.length L,.slice M fs[i].stack.length N],.int .i64 q] U (La q (Lp fs[i]) U)):=fun U hU=>Qdb (by omega) (by omega) (z.out _ (List.getElem_mem hlt)) U (C2 t hU) (C2 u hU)
    clear m t u;go_wp2_with (go_at_call 51;refine(B.out _ (by first|exact Below.refl _ _|exact(Below.refl _ _).drew|exact(Below.refl _ _).alloc (Nat.le_refl _) _)).mono ?_;rintro e Y ⟨r,rfl,G,n,d⟩;rcases Ot r with⟨F,I⟩|⟨F,J⟩)
    ·have _t:=I;go_ret;exact⟨-1,rfl,⟨by omega,by omega⟩,fun h=>by omega,b.trans (d.mono y)⟩
    ·have _t:=J;go_roundw;case rel =>
      refine⟨i+1,r,by omega,by go_num,rfl,by omega,fun k x h2 => ?_,b.trans (d.mono y)⟩;by_cases e:k=i
      ·subst e;exact n (by omega)
      ·exact p.out k (by omega) h2
     case measure=>simp[intOf];omega
   ·have j:¬ (i:Int) < (fs.length:Int):=(by omega);go_wp2;go_ret;exact⟨q,rfl,⟨by omega,by omega⟩,fun _=>⟨by omega,fun c m=>by obtain⟨k,x,e⟩:=List.getElem_of_mem m;rw[<- e];exact p.out k (by omega) x⟩,b⟩
theorem Qdm (q:Int) (a b c:Nat):(q < 0/\Gf)\/((¬ q < 0/\q - (a:Int) < 0)/\Gf)\/((¬ q < 0/\¬ q - (a:Int) < 0/\q - (a:Int) - (b:Int) < 0)/\Gf)\/((¬ q < 0/\¬ q - (a:Int) < 0/\¬ q - (a:Int) - (b:Int) < 0/\q - (a:Int) - (b:Int) - (c:Int) < 0)/\Gf)\/((¬ q < 0/\¬ q - (a:Int) < 0/\¬ q - (a:Int) - (b:Int) < 0/\¬ q - (a:Int) - (b:Int) - (c:Int) < 0)/\Gf):=by
 simp only[Gf,and_true];omega
theorem Qci (m:Ea) (ca aa oa fa ia sa:Option Addr) (cc ac oc fc ic sc:Nat) (hF:Xf m) (w:World) (hM:Ji w m ca aa oa fa ia sa cc ac oc fc ic sc):Calls Tryz.prog 5 #[.agg #[.slice ca m.codes.length cc,.slice aa m.args.length ac,.slice oa m.outs.length oc,.slice fa m.frames.length fc,.int .i64 m.steps,.int .i64 m.looks,.int .i64 m.kind,.string m.name,.string m.hold,.bool m.over,.int .i64 m.fin,.string m.text,.slice ia m.files.length ic,.slice sa m.said.length sc],.int .i64 1048576] w (La 1048576 (Io m) w):=by
 obtain⟨Y,C⟩:∃ Y,w.alloc (.cells #[.slice ca m.codes.length cc,.slice aa m.args.length ac,.slice oa m.outs.length oc,.slice fa m.frames.length fc,.int .i64 m.steps,.int .i64 m.looks,.int .i64 m.kind,.string m.name,.string m.hold,.bool m.over,.int .i64 m.fin,.string m.text,.slice ia m.files.length ic,.slice sa m.said.length sc] 27)=Y:=⟨_,rfl⟩;have b:Below w.heap.size w Y:=by rw[<- C];exact Au w _
 have af:Y.heap.size=w.heap.size+1:=by rw[<- C];exact World.size_alloc _ _
 have O:Y.heap[w.heap.size]? = some (.cells #[.slice ca m.codes.length cc,.slice aa m.args.length ac,.slice oa m.outs.length oc,.slice fa m.frames.length fc,.int .i64 m.steps,.int .i64 m.looks,.int .i64 m.kind,.string m.name,.string m.hold,.bool m.over,.int .i64 m.fin,.string m.text,.slice ia m.files.length ic,.slice sa m.said.length sc] 27):=by rw[<- C];exact Af w _
 have d:Hid (∀ U,Below Y.heap.size Y U->∀ k v,(#[.slice ca m.codes.length cc,.slice aa m.args.length ac,.slice oa m.outs.length oc,.slice fa m.frames.length fc,.int .i64 m.steps,.int .i64 m.looks,.int .i64 m.kind,.string m.name,.string m.hold,.bool m.over,.int .i64 m.fin,.string m.text,.slice ia m.files.length ic,.slice sa m.said.length sc]:Array Value)[k]? = some v->U.cell? ⟨w.heap.size,k,none⟩=some v):=fun U hU k v hv=>(hU.cell (p:=⟨w.heap.size,k,none⟩) (by show w.heap.size < _;omega)).trans (by rw[Lib.cell_of_heap O];exact hv)
 have n:Hid (∀ U,Below Y.heap.size Y U->Ji U m ca aa oa fa ia sa cc ac oc fc ic sc):=fun U hU=>(hM.below b).below hU
 have j:Hid (Xf m):=hF;have n1:m.name.size<=9223372036854775807:=hF.name;have n2:m.hold.size<=9223372036854775807:=hF.hold;have n3:m.text.size<=9223372036854775807:=hF.text;have a:=b.size;clear hM hF O;have c0:=d.out Y (Below.refl _ _) 0 _ rfl;have B:Below Y.heap.size Y Y:=Below.refl _ _;have W:Gf:=trivial;go_enter Tryz.func5,Tryz.ntmps5;go_wp2_with (first
  | (go_at_call 16;have _t:=W;clear W;refine(Qch (l:=1048576) (by omega) (by omega) j.out.codes Y (n.out Y B).codes).mono ?_;rintro e x ⟨P,rfl,⟨l1,g1⟩,s1,X⟩;have o:Below Y.heap.size Y x:=B.trans (X.mono B.size);have c1:=d.out x o 1 _ rfl;rcases Ot P with⟨D,e1⟩|⟨D,K⟩)
  | (go_at_call 17;have _t:=K;clear K;refine(S5 (l:=P) (by omega) (by omega) j.out.args x (n.out x o).args).mono ?_;rintro e y ⟨Q,rfl,⟨l2,g2⟩,s2,Z⟩;have q:Below Y.heap.size Y y:=o.trans (Z.mono o.size);have c2:=d.out y q 2 _ rfl;rcases Ot Q with⟨E,e2⟩|⟨E,L⟩)
  | (go_at_call 17;have _t:=L;clear L;refine(S5 (l:=Q) (by omega) (by omega) j.out.outs y (n.out y q).outs).mono ?_;rintro e z ⟨R,rfl,⟨l3,g3⟩,s3,a3⟩;have r:Below Y.heap.size Y z:=q.trans (a3.mono q.size);have c3:=d.out z r 3 _ rfl;rcases Ot R with⟨F,e3⟩|⟨F,M⟩)
  | (go_at_call 18;have _t:=M;clear M;refine(Qc5 (l:=R) (by omega) (by omega) j.out.frames z (n.out z r).frames).mono ?_;rintro e i ⟨S,rfl,⟨l4,g4⟩,s4,a4⟩;have c:Below Y.heap.size Y i:=r.trans (a4.mono r.size);have c7:=d.out i c 7 _ rfl;have c8:=d.out i c 8 _ rfl;have ab:=d.out i c 11 _ rfl;have ad:=d.out i c 12 _ rfl;have x1:m.name.size<=9223372036854775807:=n1;rcases Qdm S m.name.size m.hold.size m.text.size with⟨f,e4⟩|⟨⟨f,g⟩,u1⟩|⟨⟨f,g,t⟩,u2⟩|⟨⟨f,g,t,I⟩,u3⟩|⟨⟨f,g,t,I⟩,u⟩)
  | (go_at_call 19;have _t:=u;clear u;refine(Qc4 (l:=S - (m.name.size:Int) - (m.hold.size:Int) - (m.text.size:Int)) (by omega) (by omega) j.out.files i (n.out i c).files).mono ?_;rintro e A ⟨T,rfl,⟨l5,g5⟩,s5,a5⟩;have s:Below Y.heap.size Y A:=c.trans (a5.mono c.size);have ae:=d.out A s 13 _ rfl;rcases Ot T with⟨G,e5⟩|⟨G,N⟩)
  | (go_at_call 17;have _t:=N;clear N;refine(S5 (l:=T) (by omega) (by omega) j.out.said A (n.out A s).said).mono ?_;rintro e w6 ⟨V,rfl,⟨l6,g6⟩,s6,a6⟩;have J:Below Y.heap.size Y w6:=s.trans (a6.mono s.size);rcases Ot V with⟨H,e6⟩|⟨H,k6⟩))
 all_goals first
  | (have _t:=e1;go_ret;exact⟨-1,rfl,⟨by omega,by omega⟩,fun h=>by omega,b.trans (o.mono a)⟩)
  | (have _t:=e2;go_ret;exact⟨-1,rfl,⟨by omega,by omega⟩,fun h=>by omega,b.trans (q.mono a)⟩)
  | (have _t:=e3;go_ret;exact⟨-1,rfl,⟨by omega,by omega⟩,fun h=>by omega,b.trans (r.mono a)⟩)
  | (have _t:=e4;go_ret;exact⟨-1,rfl,⟨by omega,by omega⟩,fun h=>by omega,b.trans (c.mono a)⟩)
  | (have _t:=u1;go_ret;exact⟨-1,rfl,⟨by omega,by omega⟩,fun h=>by omega,b.trans (c.mono a)⟩)
  | (have _t:=u2;go_ret;exact⟨-1,rfl,⟨by omega,by omega⟩,fun h=>by omega,b.trans (c.mono a)⟩)
  | (have _t:=u3;go_ret;exact⟨-1,rfl,⟨by omega,by omega⟩,fun h=>by omega,b.trans (c.mono a)⟩)
  | (have _t:=e5;go_ret;exact⟨-1,rfl,⟨by omega,by omega⟩,fun h=>by omega,b.trans (s.mono a)⟩)
  | (have _t:=e6;go_ret;exact⟨-1,rfl,⟨by omega,by omega⟩,fun h=>by omega,b.trans (J.mono a)⟩)
  | (have _t:=k6;go_ret;exact⟨V,rfl,⟨by omega,by omega⟩,fun _=>⟨s1 (by omega),s2 (by omega),s3 (by omega),s4 (by omega),by omega,by omega,by omega,s5 (by omega),s6 (by omega)⟩,b.trans (J.mono a)⟩)
end Go.Proofs.YtahibkjkpmdhgaaGreatDoor
