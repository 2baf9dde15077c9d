import Derived.Test.YtahibkjkpmdhgaaGreatDoorKCgB
import Derived.Test.YtahibkjkpmdhgaaGreatDoorKBoxC
set_option maxRecDepth 100000
set_option maxHeartbeats 4000000
namespace Go.Proofs.YtahibkjkpmdhgaaGreatDoor
open Go.RowKit
structure Fh where
 code:Int
 fn:Int
 at':Int
 slots:List Ea
 stack:List Ea
structure Ds where
 codes:List (List Af)
 args:List ByteArray
 outs:List ByteArray
 frames:List Fh
 steps:Int
 looks:Int
 kind:Int
 name:ByteArray
 hold:ByteArray
 over:Bool
 fin:Int
 text:ByteArray
 files:List Dg
 said:List ByteArray
abbrev Dc (m:Ds) (ca aa oa fa ia sa:Option Addr) (cc ac oc fc ic sc:Nat):Array Value := #[.slice ca m.codes.length cc,.slice aa m.args.length ac,.slice oa m.outs.length oc,.slice fa m.frames.length fc,.int .i64 m.steps,.int .i64 m.looks,.int .i64 m.kind,.string m.name,.string m.hold,.bool m.over,.int .i64 m.fin,.string m.text,.slice ia m.files.length ic,.slice sa m.said.length sc]
def Gu : Fh:=⟨0,0,0,[],[]⟩
def C6 (l:List ByteArray):Bool:=l.all (fun t=>decide ((t.size:Int)<=3000))
def Dy (l:List ByteArray) (M:Nat):Prop:=l.length<=M/\C6 l=true
def F2 (m:Ds):Prop :=
 (m.codes.length+m.args.length+m.outs.length+m.frames.length=0/\m.looks=0/\m.kind=0/\m.name.toList=[]/\m.hold.toList=[])/\(0<=m.fin/\m.fin<=5)/\(m.text.size:Int)<=3000/\(m.fin=0\/m.files.length=0)
def C7 (m:Ds):Prop :=
 (m.kind=0/\m.name.toList=[]/\m.hold.toList=[]) \/
  (1<=m.kind/\m.kind<=4/\((m.kind=3/\C4 m.name=true)\/(m.kind≠3/\Do m.name=true))/\(m.hold.size:Int)<=3000/\(m.hold.toList=[]\/m.kind=4)/\1<=m.looks)
def Bw (m:Ds) (k:Nat):Option (Int × Int) :=
 if k+1 < m.frames.length then
  (if (m.frames.getD (k+1) Gu).code=(m.frames.getD k Gu).code then some (9,(m.frames.getD (k+1) Gu).fn) else some (8,4))
 else if m.kind=0 then none else some (8,m.kind)
def E9 (v:Ea):Bool:=v.type == 0 && v.n == 0 && v.text.toList.isEmpty
def Eg (t:Int) (v:Ea):Bool:=(decide (t=0) || decide (v.type=t)) && (E9 v || A4 v)
def Eb (s:List Int) (vs:List Ea):Prop:=vs.length=s.length/\∀ i (h1:i < s.length) (h2:i < vs.length),Eg s[i] vs[i]=true
def Cg (s:List Int) (vs:List Ea):Prop:=vs.length=s.length/\∀ i (h1:i < s.length) (h2:i < vs.length),vs[i].type=s[i]/\A4 vs[i]=true
def Bd (c:List Af):Prop:=Dj c (0,0,0)
def Dh (c:List Af) (op a:Int):Int:=if op=9 then (c.getD a.toNat A6).result else Cm a
def Fu (b:Option (Int × Int)) (f:Fh) (c:List Af) (fn:Af) (X:List Am):Prop :=
 0<=f.at'/\f.at' < (fn.ins.length:Int)/\∃ s t,Ai X f.at'.toNat = .known s t/\Eb s f.slots /\
  match b with
  | none=>Cg t f.stack
  | some (op,a)=>1<=f.at'/\(∃ s0 t0,Ai X (f.at'.toNat - 1) = .known s0 t0)/\(fn.ins.getD (f.at'.toNat - 1) C3).op=op/\(fn.ins.getD (f.at'.toNat - 1) C3).a=a/\Cg (if Dh c op a=0 then t else t.dropLast) f.stack
def Dt (m:Ds) (k:Nat):Int:=if k=0 then -1 else (m.frames.getD (k - 1) Gu).code
def Mi (c:List Af) (k:Int):Prop:=0<=k/\k < (c.length:Int)/\A8 (c.getD k.toNat A6)=true
def If (m:Ds):Prop :=
 1<=m.frames.length/\m.frames.length<=40/\(m.frames.getD (m.frames.length - 1) Gu).code=(m.codes.length:Int) - 1 /\
  ∀ k (hk:k < m.frames.length),(m.frames[k].code=Dt m k\/m.frames[k].code=Dt m k+1)/\0<=m.frames[k].code/\m.frames[k].code < (m.codes.length:Int)/\0<=m.frames[k].fn/\m.frames[k].fn < ((m.codes.getD m.frames[k].code.toNat []).length:Int)/\(m.frames[k].code≠Dt m k->Mi (m.codes.getD m.frames[k].code.toNat []) m.frames[k].fn)
def Fy (m:Ds):Prop :=
 ∀ k (hk:k < m.frames.length),∃ X,Cr (m.codes.getD m.frames[k].code.toNat []) ((m.codes.getD m.frames[k].code.toNat []).getD m.frames[k].fn.toNat A6) X/\Fu (Bw m k) m.frames[k] (m.codes.getD m.frames[k].code.toNat []) ((m.codes.getD m.frames[k].code.toNat []).getD m.frames[k].fn.toNat A6) X
def On (m:Ds):Prop :=
 m.codes.length<=40/\m.args.length=m.codes.length/\Dy m.args 40/\Gb ⟨#[]⟩ m.outs=true/\(0<=m.looks/\m.looks<=100)/\m.fin=0/\m.text.toList=[]/\C7 m /\
  (∀ f ∈ m.files,∃ o ∈ m.outs,o.toList=f.name.toList)/\(∀ c ∈ m.codes,Bd c)/\If m/\Fy m
def Gk (m:Ds):Prop :=
 G5 m.files 20=true/\Dy m.said 50/\(0<=m.steps/\m.steps<=4000)/\((m.over=true/\F2 m)\/(m.over=false/\On m))
def Cv : Prop:=True
def Mg (l:Int) (P:Prop) (w:World) (e:Ending) (w':World):Prop := ∃ q:Int,e = .returned (.int .i64 q)/\(-1<=q/\q<=l)/\(0<=q->P)/\OH w w'
def Rl (xs:List ByteArray):Prop:=xs.length<=1048576/\∀ d ∈ xs,d.size<=1048576
def V8 (xs:List Ea):Prop:=xs.length<=1048576/\∀ d ∈ xs,d.text.size<=1048576
def Qei (xs:List Dg):Prop:=xs.length<=1048576/\∀ d ∈ xs,d.name.size<=1048576/\d.text.size<=1048576
def Oe (c:List Af):Prop:=c.length<=1048576/\∀ f ∈ c,f.name.size<=1048576/\f.params.length<=1048576/\f.ins.length<=1048576
def Qu (cs:List (List Af)):Prop:=cs.length<=1048576/\∀ c ∈ cs,Oe c
def M5 (f:Fh):Prop:=V8 f.slots/\V8 f.stack
def Of (fs:List Fh):Prop:=fs.length<=1048576/\∀ f ∈ fs,M5 f
def Cl (n:Nat):Prop:=n<=9223372036854775807
theorem Yl : ∀ (xs:List ByteArray) (l:Int),0<=l -> -1<=I8 xs l/\I8 xs l<=l/\(0<=I8 xs l->∀ d ∈ xs,(d.size:Int)<=l)
 | [],l,h=>by rw[I8];exact⟨by omega,by omega,fun _ d hd=>by simp at hd⟩
 | d::r,l,h=>by
  rw[I8]
  split
  ·exact⟨by omega,by omega,fun h=>Ou⟩
  ·obtain⟨b,f,c⟩:=Yl r (l - (d.size:Int)) Ou
   refine⟨b,by omega,fun hp x a => ?_⟩
   rcases List.mem_cons.1 a with rfl|a
   ·omega
   ·have:=c hp x a;omega
theorem Ym : ∀ (xs:List Ea) (l:Int),0<=l -> -1<=Hn xs l/\Hn xs l<=l/\(0<=Hn xs l->∀ d ∈ xs,(d.text.size:Int)<=l)
 | [],l,h=>by rw[Hn];exact⟨by omega,by omega,fun _ d hd=>by simp at hd⟩
 | d::r,l,h=>by
  rw[Hn]
  split
  ·exact⟨by omega,by omega,fun h=>Ou⟩
  ·obtain⟨b,f,c⟩:=Ym r (l - (d.text.size:Int)) Ou
   refine⟨b,by omega,fun hp x a => ?_⟩
   rcases List.mem_cons.1 a with rfl|a
   ·omega
   ·have:=c hp x a;omega
theorem V9 {xs:List ByteArray} {v:Value} {l:Int} (h0:0<=l) (h1:l<=1048576) (hn:Cl xs.length/\∀ d ∈ xs,Cl d.size) (w:World) (hN:Dw w v xs):Calls Tryz.prog 17 #[v,.int .i64 l] w (Mg l (Rl xs) w):=by
 refine(Qz xs v l h0 h1 hn.1 hn.2 w hN).mono ?_;rintro e w' ⟨rfl,a⟩;by_cases h:l - (xs.length:Int) < 0
 ·rw[if_pos h];exact⟨_,rfl,⟨by omega,by omega⟩,fun h=>Ou,a⟩
 ·rw[if_neg h];obtain⟨c,f,b⟩:=Yl xs (l - (xs.length:Int)) Ou;exact⟨_,rfl,⟨c,by omega⟩,fun hq=>⟨by omega,fun d hd=>by have:=b hq d hd;omega⟩,a⟩
theorem Qc8 {xs:List Ea} {v:Value} {l:Int} (h0:0<=l) (h1:l<=1048576) (hn:Cl xs.length/\∀ d ∈ xs,Cl d.text.size) (w:World) (hN:Ft w v xs):Calls Tryz.prog 82 #[v,.int .i64 l] w (Mg l (V8 xs) w):=by
 refine(Rh xs v l h0 h1 hn.1 hn.2 w hN).mono ?_;rintro e w' ⟨rfl,a⟩;by_cases h:l - (xs.length:Int) < 0
 ·rw[if_pos h];exact⟨_,rfl,⟨by omega,by omega⟩,fun h=>Ou,a⟩
 ·rw[if_neg h];obtain⟨c,f,b⟩:=Ym xs (l - (xs.length:Int)) Ou;exact⟨_,rfl,⟨c,by omega⟩,fun hq=>⟨by omega,fun d hd=>by have:=b hq d hd;omega⟩,a⟩
theorem Qgo {xs:List Dg} {v:Value} {l:Int} (h0:0<=l) (h1:l<=1048576) (hn:Cl xs.length/\∀ d ∈ xs,Cl d.name.size/\Cl d.text.size) (w:World) (hN:Gc w v xs):Calls Tryz.prog 19 #[v,.int .i64 l] w (Mg l (Qei xs) w):=by
 refine(Tu xs v l h0 h1 hn.1 hn.2 w hN).mono ?_;rintro e w' ⟨rfl,f⟩;obtain⟨b,c,a⟩:=Qf1 xs l h0;exact⟨_,rfl,⟨b,c⟩,fun h=>⟨by have:=(a h).1;omega,fun d hd=>by have:=(a h).2 d hd;omega⟩,f⟩
theorem Qgn {c:List Af} {a:Option Addr} {cap:Nat} {l:Int} (h0:0<=l) (h1:l<=1048576) (hn:Cl c.length/\∀ f ∈ c,Lv f) (w:World) (hN:Ez w (.slice a c.length cap) c):Calls Tryz.prog 50 #[.agg #[.slice a c.length cap],.int .i64 l] w (Mg l (Oe c) w):=by
 refine(Xk c a cap l h0 h1 hn.1 hn.2 w hN).mono ?_;rintro e w' ⟨rfl,j⟩;obtain⟨g,i,b⟩:=Qb4 c l h0;refine⟨_,rfl,⟨g,i⟩,fun h=>⟨by have:=(b h).1;omega,fun d hd => ?_⟩,j⟩;obtain⟨k,m,n⟩:=(b h).2 d hd;exact⟨by omega,by omega,by omega⟩
def Gj (w:World) (v:Value) (cs:List (List Af)):Prop :=
 ∃ a cap,v = .slice a cs.length cap/\∀ k (hk:k < cs.length),∃ g o ha hc,a=some (OI g o)/\g < w.heap.size/\w.cell? (OI g (o+k))=some (.slice ha cs[k].length hc)/\Ez w (.slice ha cs[k].length hc) cs[k]
def H1 (w:World) (v:Value) (fs:List Fh):Prop :=
 ∃ a cap,v = .slice a fs.length cap/\∀ k (hk:k < fs.length),∃ g o sa sc ta tc,a=some (OI g o)/\g < w.heap.size/\(w.cell? (OI g (o+k * 5))=some (.int .i64 fs[k].code)/\w.cell? (OI g (o+k * 5+1))=some (.int .i64 fs[k].fn)/\w.cell? (OI g (o+k * 5+2))=some (.int .i64 fs[k].at')/\w.cell? (OI g (o+k * 5+3))=some (.slice sa fs[k].slots.length sc)/\w.cell? (OI g (o+k * 5+4))=some (.slice ta fs[k].stack.length tc))/\Ft w (.slice sa fs[k].slots.length sc) fs[k].slots/\Ft w (.slice ta fs[k].stack.length tc) fs[k].stack
theorem Gj.below {w w':World} {v:Value} {cs:List (List Af)} (h:Gj w v cs) (hb:OH w w'):Gj w' v cs:=by
 obtain⟨a,b,rfl,m⟩:=h;refine⟨a,b,rfl,fun k hk => ?_⟩;obtain⟨g,o,l,c,f,d,i,j⟩:=m k hk;exact⟨g,o,l,c,f,Nat.lt_of_lt_of_le d hb.size,(hb.cell (p:=(OI g (o+k))) d).trans i,j.below hb⟩
theorem H1.below {w w':World} {v:Value} {fs:List Fh} (h:H1 w v fs) (hb:OH w w'):H1 w' v fs:=by
 obtain⟨a,c,rfl,r⟩:=h;refine⟨a,c,rfl,fun k hk => ?_⟩;obtain⟨g,o,s,t,u,x,m,b,⟨d,f,i,j,l⟩,n,q⟩:=r k hk;exact⟨g,o,s,t,u,x,m,Nat.lt_of_lt_of_le b hb.size,⟨(hb.cell (p:=(OI g (o+k * 5))) b).trans d,(hb.cell (p:=(OI g (o+k * 5+1))) b).trans f,(hb.cell (p:=(OI g (o+k * 5+2))) b).trans i,(hb.cell (p:=(OI g (o+k * 5+3))) b).trans j,(hb.cell (p:=(OI g (o+k * 5+4))) b).trans l⟩,Db n hb,Db q hb⟩
theorem Qt (q:Int):(q < 0/\Cv)\/(¬ q < 0/\Cv):=by
 simp only[Cv,and_true];omega
theorem Qfv {cs:List (List Af)} {v:Value} {l:Int} (h0:0<=l) (h1:l<=1048576) (hn:Cl cs.length/\∀ c ∈ cs,Cl c.length/\∀ f ∈ c,Lv f) (w:World) (hN:Gj w v cs):Calls Tryz.prog 16 #[v,.int .i64 l] w (Mg l (Qu cs) w):=by
 have A:Hid (Gj w v cs):=hN;obtain⟨a,C,I,-⟩:=hN;subst I;have z:Hid (∀ c ∈ cs,Cl c.length/\∀ f ∈ c,Lv f):=hn.2;have F:cs.length<=9223372036854775807:=hn.1;clear hn;by_cases hl:l - (cs.length:Int) < 0
 ·go_enter Tryz.func16,Tryz.ntmps16;go_wp2;go_ret;exact⟨-1,rfl,⟨by omega,by omega⟩,fun h=>Ou,Below.refl _ _⟩
 ·go_enter Tryz.func16,Tryz.ntmps16;go_wp2;go_loopw [1,5] (fun tl tv wr => ∃ (i:Nat) (q:Int),i<=cs.length/\tv = .int .i64 (i:Int)/\tl = .int .i64 q/\(0<=q/\q<=l - (cs.length:Int))/\Hid (∀ k (_:k < i) (h2:k < cs.length),Oe cs[k])/\OH w wr) (fun _ tv _=>cs.length - (intOf tv).toNat);case atStart=>exact⟨0,l - (cs.length:Int),by omega,rfl,rfl,by omega,fun k h=>Ou,Below.refl _ _⟩
  case round =>
   obtain⟨i,q,O,rfl,rfl,P,s,b⟩:=hrel;have y:=b.size;by_cases hlt:i < cs.length
   ·have j:(i:Int) < (cs.length:Int):=Ou;obtain⟨L,t,e,m⟩:=A.out.below b;injection e with e e2 e3;subst e e3;obtain⟨g,o,E,n,D,N,M,u⟩:=m i hlt;subst D;have B:Hid (∀ U,OH wr U->Calls Tryz.prog 50 #[.agg #[.slice E cs[i].length n],.int .i64 q] U (Mg q (Oe cs[i]) U)):=fun U hU=>Qgn Ou Ou (z.out _ (List.getElem_mem hlt)) U (u.below hU)
    clear m u;go_wp2_with (go_at_call 50;refine(B.out _ (by first|exact Below.refl _ _|exact(Below.refl _ _).drew|exact(Below.refl _ _).alloc (Nat.le_refl _) _)).mono ?_;rintro e Q ⟨r,rfl,H,p,d⟩;rcases Qt r with⟨G,J⟩|⟨G,K⟩)
    ·have _t:=J;go_ret;exact⟨-1,rfl,⟨by omega,by omega⟩,fun h=>Ou,b.trans (d.mono y)⟩
    ·have _t:=K;go_roundw;case rel =>
      refine⟨i+1,r,by omega,by go_num,rfl,by omega,fun k x h2 => ?_,b.trans (d.mono y)⟩;by_cases e:k=i
      ·subst e;exact p Ou
      ·exact s.out k Ou h2
     case measure=>simp[intOf];omega
   ·have j:¬ (i:Int) < (cs.length:Int):=Ou;go_wp2;go_ret;exact⟨q,rfl,⟨by omega,by omega⟩,fun _=>⟨by omega,fun c m=>by obtain⟨k,x,e⟩:=List.getElem_of_mem m;rw[<- e];exact s.out k Ou x⟩,b⟩
theorem Qgx {f:Fh} {sa ta:Option Addr} {sc tc:Nat} {l:Int} (h0:0<=l) (h1:l<=1048576) (hn:(Cl f.slots.length/\∀ d ∈ f.slots,Cl d.text.size)/\(Cl f.stack.length/\∀ d ∈ f.stack,Cl d.text.size)) (w:World) (hS:Ft w (.slice sa f.slots.length sc) f.slots) (hT:Ft w (.slice ta f.stack.length tc) f.stack) :
  Calls Tryz.prog 51 #[.agg #[.int .i64 f.code,.int .i64 f.fn,.int .i64 f.at',.slice sa f.slots.length sc,.slice ta f.stack.length tc],.int .i64 l] w (Mg l (M5 f) w):=by
 obtain⟨Y,j⟩:∃ Y,w.alloc (.cells #[.int .i64 f.code,.int .i64 f.fn,.int .i64 f.at',.slice sa f.slots.length sc,.slice ta f.stack.length tc] 83)=Y:=⟨_,rfl⟩;have b:OH w Y:=by rw[<- j];exact Ao w _
 have A:Y.heap.size=w.heap.size+1:=by rw[<- j];exact World.size_alloc _ _
 have n:Y.heap[w.heap.size]? = some (.cells #[.int .i64 f.code,.int .i64 f.fn,.int .i64 f.at',.slice sa f.slots.length sc,.slice ta f.stack.length tc] 83):=by rw[<- j];exact Ae w _
 have E:Y.cell? (OK w 3)=some (.slice sa f.slots.length sc):=by rw[Lib.cell_of_heap n];rfl
 have u:Hid (∀ U,OH Y U->U.cell? (OK w 4)=some (.slice ta f.stack.length tc)):=fun U hU=>(hU.cell (p:=(OK w 4)) (by show w.heap.size < _;omega)).trans (by rw[Lib.cell_of_heap n];rfl)
 have g:Hid (Calls Tryz.prog 82 #[.slice sa f.slots.length sc,.int .i64 l] Y (Mg l (V8 f.slots) Y)):=Qc8 h0 h1 hn.1 Y (Db hS b);have i:Hid (∀ q:Int,0<=q->q<=1048576->∀ U,OH Y U->Calls Tryz.prog 82 #[.slice ta f.stack.length tc,.int .i64 q] U (Mg q (V8 f.stack) U)):=fun q q0 q1 U hU=>Qc8 q0 q1 hn.2 U (Db (Db hT b) hU)
 clear hS hT hn n;have s:Cv:=trivial;go_enter Tryz.func51,Tryz.ntmps51;go_wp2_with (first
  | (go_at_call 82;have _t:=s;clear s;refine g.out.mono ?_;rintro e t ⟨q,rfl,x,k,a⟩;have F:=u.out t a;rcases Qt q with⟨v,B⟩|⟨v,o⟩)
  | (go_at_call 82;have _t:=o;clear o;refine(i.out q Ou Ou t a).mono ?_;rintro e G ⟨r,rfl,z,m,c⟩;rcases Qt r with⟨y,C⟩|⟨y,D⟩))
 all_goals first
  | (have _t:=B;go_ret;exact⟨-1,rfl,⟨by omega,by omega⟩,fun h=>Ou,b.trans (a.mono b.size)⟩)
  | (have _t:=C;go_ret;exact⟨-1,rfl,⟨by omega,by omega⟩,fun h=>Ou,(b.trans (a.mono b.size)).trans (c.mono (by have:=a.size;omega))⟩)
  | (have _t:=D;go_ret;exact⟨r,rfl,⟨by omega,by omega⟩,fun h=>⟨k Ou,m Ou⟩,(b.trans (a.mono b.size)).trans (c.mono (by have:=a.size;omega))⟩)
def Jh (xs:List Ea):Prop:=Cl xs.length/\∀ d ∈ xs,Cl d.text.size
def To (xs:List ByteArray):Prop:=Cl xs.length/\∀ d ∈ xs,Cl d.size
structure Qag (m:Ds):Prop where
 codes:Cl m.codes.length/\∀ c ∈ m.codes,Cl c.length/\∀ f ∈ c,Lv f
 args:To m.args
 outs:To m.outs
 frames:Cl m.frames.length/\∀ f ∈ m.frames,Jh f.slots/\Jh f.stack
 name:Cl m.name.size
 hold:Cl m.hold.size
 text:Cl m.text.size
 files:Cl m.files.length/\∀ d ∈ m.files,Cl d.name.size/\Cl d.text.size
 said:To m.said
structure H4 (m:Ds):Prop where
 codes:Qu m.codes
 args:Rl m.args
 outs:Rl m.outs
 frames:Of m.frames
 name:m.name.size<=1048576
 hold:m.hold.size<=1048576
 text:m.text.size<=1048576
 files:Qei m.files
 said:Rl m.said
structure Kh (w:World) (m:Ds) (ca aa oa fa ia sa:Option Addr) (cc ac oc fc ic sc:Nat):Prop where
 codes:Gj w (.slice ca m.codes.length cc) m.codes
 args:Dw w (.slice aa m.args.length ac) m.args
 outs:Dw w (.slice oa m.outs.length oc) m.outs
 frames:H1 w (.slice fa m.frames.length fc) m.frames
 files:Gc w (.slice ia m.files.length ic) m.files
 said:Dw w (.slice sa m.said.length sc) m.said
theorem Kh.below {w w':World} {m:Ds} {ca aa oa fa ia sa:Option Addr} {cc ac oc fc ic sc:Nat} (h:Kh w m ca aa oa fa ia sa cc ac oc fc ic sc) (hb:OH w w'):Kh w' m ca aa oa fa ia sa cc ac oc fc ic sc:=⟨h.codes.below hb,h.args.below hb,h.outs.below hb,h.frames.below hb,h.files.below hb,h.said.below hb⟩
theorem Qgp {fs:List Fh} {v:Value} {l:Int} (h0:0<=l) (h1:l<=1048576) (hn:Cl fs.length/\∀ f ∈ fs,Jh f.slots/\Jh f.stack) (w:World) (hN:H1 w v fs):Calls Tryz.prog 18 #[v,.int .i64 l] w (Mg l (Of fs) w):=by
 have A:Hid (H1 w v fs):=hN;obtain⟨a,C,H,-⟩:=hN;subst H;have z:Hid (∀ f ∈ fs,Jh f.slots/\Jh f.stack):=hn.2;have E:fs.length<=9223372036854775807:=hn.1;clear hn;by_cases hl:l - (fs.length:Int) < 0
 ·go_enter Tryz.func18,Tryz.ntmps18;go_wp2;go_ret;exact⟨-1,rfl,⟨by omega,by omega⟩,fun h=>Ou,Below.refl _ _⟩
 ·go_enter Tryz.func18,Tryz.ntmps18;go_wp2;go_loopw [1,5] (fun tl tv wr => ∃ (i:Nat) (q:Int),i<=fs.length/\tv = .int .i64 (i:Int)/\tl = .int .i64 q/\(0<=q/\q<=l - (fs.length:Int))/\Hid (∀ k (_:k < i) (h2:k < fs.length),M5 fs[k])/\OH w wr) (fun _ tv _=>fs.length - (intOf tv).toNat);case atStart=>exact⟨0,l - (fs.length:Int),by omega,rfl,rfl,by omega,fun k h=>Ou,Below.refl _ _⟩
  case round =>
   obtain⟨i,q,W,rfl,rfl,X,p,b⟩:=hrel;have y:=b.size;by_cases hlt:i < fs.length
   ·have j:(i:Int) < (fs.length:Int):=Ou;obtain⟨O,s,e,m⟩:=A.out.below b;injection e with e e2 e3;subst e e3;obtain⟨g,o,K,L,M,N,D,V,⟨P,Q,R,S,T⟩,t,u⟩:=m i hlt;subst D;have B:Hid (∀ U,OH wr U->Calls Tryz.prog 51 #[.agg #[.int .i64 fs[i].code,.int .i64 fs[i].fn,.int .i64 fs[i].at',.slice K fs[i].slots.length L,.slice M fs[i].stack.length N],.int .i64 q] U (Mg q (M5 fs[i]) U)):=fun U hU=>Qgx Ou Ou (z.out _ (List.getElem_mem hlt)) U (Db t hU) (Db u hU)
    clear m t u;go_wp2_with (go_at_call 51;refine(B.out _ (by first|exact Below.refl _ _|exact(Below.refl _ _).drew|exact(Below.refl _ _).alloc (Nat.le_refl _) _)).mono ?_;rintro e Y ⟨r,rfl,G,n,d⟩;rcases Qt r with⟨F,I⟩|⟨F,J⟩)
    ·have _t:=I;go_ret;exact⟨-1,rfl,⟨by omega,by omega⟩,fun h=>Ou,b.trans (d.mono y)⟩
    ·have _t:=J;go_roundw;case rel =>
      refine⟨i+1,r,by omega,by go_num,rfl,by omega,fun k x h2 => ?_,b.trans (d.mono y)⟩;by_cases e:k=i
      ·subst e;exact n Ou
      ·exact p.out k Ou h2
     case measure=>simp[intOf];omega
   ·have j:¬ (i:Int) < (fs.length:Int):=Ou;go_wp2;go_ret;exact⟨q,rfl,⟨by omega,by omega⟩,fun _=>⟨by omega,fun c m=>by obtain⟨k,x,e⟩:=List.getElem_of_mem m;rw[<- e];exact p.out k Ou x⟩,b⟩
theorem Qha (q:Int) (a b c:Nat):(q < 0/\Cv)\/((¬ q < 0/\q - (a:Int) < 0)/\Cv)\/((¬ q < 0/\¬ q - (a:Int) < 0/\q - (a:Int) - (b:Int) < 0)/\Cv)\/((¬ q < 0/\¬ q - (a:Int) < 0/\¬ q - (a:Int) - (b:Int) < 0/\q - (a:Int) - (b:Int) - (c:Int) < 0)/\Cv)\/((¬ q < 0/\¬ q - (a:Int) < 0/\¬ q - (a:Int) - (b:Int) < 0/\¬ q - (a:Int) - (b:Int) - (c:Int) < 0)/\Cv):=by
 simp only[Cv,and_true];omega
theorem Qfw (m:Ds) (ca aa oa fa ia sa:Option Addr) (cc ac oc fc ic sc:Nat) (hF:Qag m) (w:World) (hM:Kh w m ca aa oa fa ia sa cc ac oc fc ic sc):Calls Tryz.prog 5 #[.agg #[.slice ca m.codes.length cc,.slice aa m.args.length ac,.slice oa m.outs.length oc,.slice fa m.frames.length fc,.int .i64 m.steps,.int .i64 m.looks,.int .i64 m.kind,.string m.name,.string m.hold,.bool m.over,.int .i64 m.fin,.string m.text,.slice ia m.files.length ic,.slice sa m.said.length sc],.int .i64 1048576] w (Mg 1048576 (H4 m) w):=by
 obtain⟨Y,C⟩:∃ Y,w.alloc (.cells #[.slice ca m.codes.length cc,.slice aa m.args.length ac,.slice oa m.outs.length oc,.slice fa m.frames.length fc,.int .i64 m.steps,.int .i64 m.looks,.int .i64 m.kind,.string m.name,.string m.hold,.bool m.over,.int .i64 m.fin,.string m.text,.slice ia m.files.length ic,.slice sa m.said.length sc] 27)=Y:=⟨_,rfl⟩;have b:OH w Y:=by rw[<- C];exact Ao w _
 have af:Y.heap.size=w.heap.size+1:=by rw[<- C];exact World.size_alloc _ _
 have O:Y.heap[w.heap.size]? = some (.cells #[.slice ca m.codes.length cc,.slice aa m.args.length ac,.slice oa m.outs.length oc,.slice fa m.frames.length fc,.int .i64 m.steps,.int .i64 m.looks,.int .i64 m.kind,.string m.name,.string m.hold,.bool m.over,.int .i64 m.fin,.string m.text,.slice ia m.files.length ic,.slice sa m.said.length sc] 27):=by rw[<- C];exact Ae w _
 have d:Hid (∀ U,OH Y U->∀ k v,(#[.slice ca m.codes.length cc,.slice aa m.args.length ac,.slice oa m.outs.length oc,.slice fa m.frames.length fc,.int .i64 m.steps,.int .i64 m.looks,.int .i64 m.kind,.string m.name,.string m.hold,.bool m.over,.int .i64 m.fin,.string m.text,.slice ia m.files.length ic,.slice sa m.said.length sc]:Array Value)[k]? = some v->U.cell? (OK w k)=some v):=fun U hU k v hv=>(hU.cell (p:=(OK w k)) (by show w.heap.size < _;omega)).trans (by rw[Lib.cell_of_heap O];exact hv)
 have n:Hid (∀ U,OH Y U->Kh U m ca aa oa fa ia sa cc ac oc fc ic sc):=fun U hU=>(hM.below b).below hU
 have j:Hid (Qag m):=hF;have n1:m.name.size<=9223372036854775807:=hF.name;have n2:m.hold.size<=9223372036854775807:=hF.hold;have n3:m.text.size<=9223372036854775807:=hF.text;have a:=b.size;clear hM hF O;have c0:=d.out Y (Below.refl _ _) 0 _ rfl;have B:OH Y Y:=Below.refl _ _;have W:Cv:=trivial;go_enter Tryz.func5,Tryz.ntmps5;go_wp2_with (first
  | (go_at_call 16;have _t:=W;clear W;refine(Qfv (l:=1048576) Ou Ou j.out.codes Y (n.out Y B).codes).mono ?_;rintro e x ⟨P,rfl,⟨l1,g1⟩,s1,X⟩;have o:OH Y x:=B.trans (X.mono B.size);have c1:=d.out x o 1 _ rfl;rcases Qt P with⟨D,e1⟩|⟨D,K⟩)
  | (go_at_call 17;have _t:=K;clear K;refine(V9 (l:=P) Ou Ou j.out.args x (n.out x o).args).mono ?_;rintro e y ⟨Q,rfl,⟨l2,g2⟩,s2,Z⟩;have q:OH Y y:=o.trans (Z.mono o.size);have c2:=d.out y q 2 _ rfl;rcases Qt Q with⟨E,e2⟩|⟨E,L⟩)
  | (go_at_call 17;have _t:=L;clear L;refine(V9 (l:=Q) Ou Ou j.out.outs y (n.out y q).outs).mono ?_;rintro e z ⟨R,rfl,⟨l3,g3⟩,s3,a3⟩;have r:OH Y z:=q.trans (a3.mono q.size);have c3:=d.out z r 3 _ rfl;rcases Qt R with⟨F,e3⟩|⟨F,M⟩)
  | (go_at_call 18;have _t:=M;clear M;refine(Qgp (l:=R) Ou Ou j.out.frames z (n.out z r).frames).mono ?_;rintro e i ⟨S,rfl,⟨l4,g4⟩,s4,a4⟩;have c:OH Y i:=r.trans (a4.mono r.size);have c7:=d.out i c 7 _ rfl;have c8:=d.out i c 8 _ rfl;have ab:=d.out i c 11 _ rfl;have ad:=d.out i c 12 _ rfl;have x1:m.name.size<=9223372036854775807:=n1;rcases Qha S m.name.size m.hold.size m.text.size with⟨f,e4⟩|⟨⟨f,g⟩,u1⟩|⟨⟨f,g,t⟩,u2⟩|⟨⟨f,g,t,I⟩,u3⟩|⟨⟨f,g,t,I⟩,u⟩)
  | (go_at_call 19;have _t:=u;clear u;refine(Qgo (l:=S - (m.name.size:Int) - (m.hold.size:Int) - (m.text.size:Int)) Ou Ou j.out.files i (n.out i c).files).mono ?_;rintro e A ⟨T,rfl,⟨l5,g5⟩,s5,a5⟩;have s:OH Y A:=c.trans (a5.mono c.size);have ae:=d.out A s 13 _ rfl;rcases Qt T with⟨G,e5⟩|⟨G,N⟩)
  | (go_at_call 17;have _t:=N;clear N;refine(V9 (l:=T) Ou Ou j.out.said A (n.out A s).said).mono ?_;rintro e w6 ⟨V,rfl,⟨l6,g6⟩,s6,a6⟩;have J:OH Y w6:=s.trans (a6.mono s.size);rcases Qt V with⟨H,e6⟩|⟨H,k6⟩))
 all_goals first
  | (have _t:=e1;go_ret;exact⟨-1,rfl,⟨by omega,by omega⟩,fun h=>Ou,b.trans (o.mono a)⟩)
  | (have _t:=e2;go_ret;exact⟨-1,rfl,⟨by omega,by omega⟩,fun h=>Ou,b.trans (q.mono a)⟩)
  | (have _t:=e3;go_ret;exact⟨-1,rfl,⟨by omega,by omega⟩,fun h=>Ou,b.trans (r.mono a)⟩)
  | (have _t:=e4;go_ret;exact⟨-1,rfl,⟨by omega,by omega⟩,fun h=>Ou,b.trans (c.mono a)⟩)
  | (have _t:=u1;go_ret;exact⟨-1,rfl,⟨by omega,by omega⟩,fun h=>Ou,b.trans (c.mono a)⟩)
  | (have _t:=u2;go_ret;exact⟨-1,rfl,⟨by omega,by omega⟩,fun h=>Ou,b.trans (c.mono a)⟩)
  | (have _t:=u3;go_ret;exact⟨-1,rfl,⟨by omega,by omega⟩,fun h=>Ou,b.trans (c.mono a)⟩)
  | (have _t:=e5;go_ret;exact⟨-1,rfl,⟨by omega,by omega⟩,fun h=>Ou,b.trans (s.mono a)⟩)
  | (have _t:=e6;go_ret;exact⟨-1,rfl,⟨by omega,by omega⟩,fun h=>Ou,b.trans (J.mono a)⟩)
  | (have _t:=k6;go_ret;exact⟨V,rfl,⟨by omega,by omega⟩,fun _=>⟨s1 Ou,s2 Ou,s3 Ou,s4 Ou,by omega,by omega,by omega,s5 Ou,s6 Ou⟩,b.trans (J.mono a)⟩)
end Go.Proofs.YtahibkjkpmdhgaaGreatDoor
