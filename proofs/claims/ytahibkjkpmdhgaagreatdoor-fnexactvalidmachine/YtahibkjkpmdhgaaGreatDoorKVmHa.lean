import Derived.Test.YtahibkjkpmdhgaaGreatDoorKVmG
import Derived.Test.YtahibkjkpmdhgaaGreatDoorKCdYA
import Derived.Test.YtahibkjkpmdhgaaGreatDoorKCeJ
set_option maxRecDepth 100000
set_option maxHeartbeats 4000000
namespace Go.Proofs.YtahibkjkpmdhgaaGreatDoor
open Go.RowKit
def Ei (P:Prop) (w:World) (e:Ending) (w':World):Prop := ∃ b,e = .returned (.bool b)/\(b=true ↔ P)/\Below w.heap.size w w'
theorem Lm {l:List ByteArray}:Cx l=true ↔ ∀ i (h:i < l.length),(l[i].size:Int)<=3000:=by
 unfold Cx;rw[List.all_eq_true];constructor
 ·intro h i a;simpa using h _ (List.getElem_mem a)
 ·intro h x b;obtain⟨i,a,e⟩:=List.getElem_of_mem b;subst e;simpa using h i a
theorem S6 (l:List ByteArray) (M:Nat) (v:Value) (w:World) (hl:Sx l) (hM:M<=1000) (hN:Ep w v l):Calls Tryz.prog 21 #[v,.int .i64 (M:Int)] w (Ei (Dk l M) w):=by
 have p:Hid (Ep w v l):=hN;obtain⟨a,q,u,-⟩:=hN;subst u;have s:l.length<=1048576:=hl.1;have n:Hid (∀ d ∈ l,d.size<=1048576):=hl.2;clear hl;by_cases hm:l.length<=M
 ·have c:¬ (M:Int) < (l.length:Int):=by omega
  go_enter Tryz.func21,Tryz.ntmps21;go_wp2;go_loopw [5] (fun t wr => ∃ i:Nat,i<=l.length/\t = .int .i64 (i:Int)/\wr=w/\Hid (∀ k (_:k < i) (h:k < l.length),(l[k].size:Int)<=3000)) (fun t _=>l.length - (intOf t).toNat);case atStart=>exact⟨0,by omega,rfl,rfl,fun k h=>by omega⟩
  case round =>
   obtain⟨i,A,rfl,rfl,f⟩:=hrel;by_cases hlt:i < l.length
   ·have b:(i:Int) < (l.length:Int):=(by omega);obtain⟨x,j,e,m⟩:=p.out;injection e with e e2 e3;subst e e3;obtain⟨g,o,r,z,y⟩:=m i hlt;subst r;have B:l[i].size<=1048576:=n.out _ (List.getElem_mem hlt);clear m;by_cases hz:(3000:Int) < (l[i].size:Int)
    ·go_wp2;go_ret;refine⟨false,rfl,⟨fun h=>by simp at h,fun h => ?_⟩,Below.refl _ _⟩;have:=Lm.1 h.2 i hlt;omega
    ·go_wp2;go_roundw;case rel =>
      refine⟨i+1,by omega,by go_num,trivial,fun k hk h => ?_⟩;by_cases e:k=i
      ·subst e;omega
      ·exact f.out k (by omega) h
     case measure=>simp[intOf];omega
   ·have b:¬ (i:Int) < (l.length:Int):=(by omega);go_wp2;go_ret;exact⟨true,rfl,⟨fun _=>⟨hm,Lm.2 (fun k h=>f.out k (by omega) h)⟩,fun _=>rfl⟩,Below.refl _ _⟩
 ·have c:(M:Int) < (l.length:Int):=by omega
  go_enter Tryz.func21,Tryz.ntmps21;go_wp2;go_ret;exact⟨false,rfl,⟨fun h=>by simp at h,fun h=>absurd h.1 hm⟩,Below.refl _ _⟩
theorem Qbc (n low high:Int) (w:World):Calls Tryz.prog 22 #[.int .i64 n,.int .i64 low,.int .i64 high] w fun e w'=>(e = .returned (.bool true)/\low<=n/\n<=high/\w=w')\/(e = .returned (.bool false)/\¬ (low<=n/\n<=high)/\w=w'):=by
 refine(Ca n low high w).mono ?_;rintro e w' ⟨rfl,rfl⟩;by_cases h:low<=n/\n<=high
 ·exact .inl ⟨by simp[At,h],h.1,h.2,rfl⟩
 ·refine .inr ⟨?_,h,rfl⟩;have:At n low high=false:=by simp[At];omega
  rw[this]
theorem Z1 (m:Ea) (ca aa oa fa ia sa:Option Addr) (cc ac oc fc ic sc:Nat) (hs:Io m) (w:World):Calls Tryz.prog 23 #[.agg #[.slice ca m.codes.length cc,.slice aa m.args.length ac,.slice oa m.outs.length oc,.slice fa m.frames.length fc,.int .i64 m.steps,.int .i64 m.looks,.int .i64 m.kind,.string m.name,.string m.hold,.bool m.over,.int .i64 m.fin,.string m.text,.slice ia m.files.length ic,.slice sa m.said.length sc]] w (Ei (Fh m) w):=by
 have a:m.codes.length<=1048576:=hs.codes.1;have b:m.args.length<=1048576:=hs.args.1;have c:m.outs.length<=1048576:=hs.outs.1;have d:m.frames.length<=1048576:=hs.frames.1;have f:m.files.length<=1048576:=hs.files.1;have g:m.text.size<=1048576:=hs.text;clear hs;go_enter Tryz.func23,Tryz.ntmps23;go_wp2_with (go_at_call 22;refine(Qbc _ _ _ _).mono ?_;rintro e w' (⟨rfl,q1,q2,rfl⟩|⟨rfl,q1,rfl⟩));all_goals (go_ret;refine⟨_,rfl, ?_,Au w _⟩;unfold Fh;grind)
theorem Z2 (m:Ea) (ca aa oa fa ia sa:Option Addr) (cc ac oc fc ic sc:Nat) (hs:Io m) (w:World):Calls Tryz.prog 25 #[.agg #[.slice ca m.codes.length cc,.slice aa m.args.length ac,.slice oa m.outs.length oc,.slice fa m.frames.length fc,.int .i64 m.steps,.int .i64 m.looks,.int .i64 m.kind,.string m.name,.string m.hold,.bool m.over,.int .i64 m.fin,.string m.text,.slice ia m.files.length ic,.slice sa m.said.length sc]] w (Ei (Cy m) w):=by
 have f:m.name.size<=1048576:=hs.name;have g:m.hold.size<=1048576:=hs.hold;clear hs;cases a:Cw m.name <;> cases b:Dc m.name
 all_goals
  have c:Hid (Cw m.name=_):=a;have d:Hid (Dc m.name=_):=b;clear a b;go_enter Tryz.func25,Tryz.ntmps25;go_wp2_with (first
   | (go_at_call 22;refine(Qbc _ _ _ _).mono ?_;rintro e w' (⟨rfl,q1,q2,rfl⟩|⟨rfl,q1,rfl⟩))
   | (go_at_call 54;refine(Nf m.name f _).mono ?_;rintro e w' ⟨rfl,rfl⟩;rw[c.out])
   | (go_at_call 53;refine(Qd m.name f _).mono ?_;rintro e w' ⟨rfl,rfl⟩;rw[d.out]))
  all_goals (go_ret;have a:=c.out;have b:=d.out;refine⟨_,rfl, ?_,Au w _⟩;unfold Cy;grind)
theorem So {c:List Ae} {r:Int × Int × Int} (h:C5 c r):r.1=0 ↔ Bf c:=by
 constructor
 ·intro a;have b:=h;unfold Bf;by_cases hp:(B4 c).1≠0
  ·unfold C5 at b;rw[if_pos hp]at b;rw[b]at a;exact absurd a hp
  ·unfold C5 at b |-
   rw[if_neg hp]at b |-
   obtain⟨g,l,m,n⟩:=b;refine⟨g,l,m,.inr ⟨?_,rfl⟩⟩;rcases n with⟨k,u,f,o,p,q,i,j,d⟩|⟨f,o⟩
   ·rw[d]at a;simp at a
   ·exact f
 ·intro a;rw[C5.one h a]
theorem Qce (c:List Ae) (ca:Option Addr) (cc:Nat) (hs:Nx c) (w:World) (hC:An w.heap.size w (.slice ca c.length cc) c):Calls Tryz.prog 26 #[.agg #[.slice ca c.length cc]] w (Ei (Bf c) w):=by
 have g:Hid (∀ U,Below w.heap.size w U->Calls Tryz.prog 55 #[.agg #[.slice ca c.length cc]] U (Ny c U)):=fun U hU=>Oy c ca cc hs.1 (fun k hk=>(hs.2 _ (List.getElem_mem hk)).2) U (by have h:=hC.below hU;exact An.mono h hU.size)
 clear hC hs;go_enter Tryz.func26,Tryz.ntmps26;go_wp2_with (go_at_call 55;refine(g.out _ (Au w _)).mono ?_;rintro e m ⟨⟨⟨i,j,l⟩,rfl,f⟩,b⟩;have d:=So f;have a:Hid (i=0 ↔ Bf c):=d;clear d f;simp only[Ww]);all_goals (go_ret;refine⟨_,rfl, ?_,(Au w _).trans (b.mono (by simp))⟩;rw[<- a.out];simp)
def Jk (a:Int):Int:=if 1<=a/\a<=4 then a else 0
theorem Zv (a:Int) (w:World):Calls Tryz.prog 118 #[.int .i64 a] w fun e w'=>e = .returned (.int .i64 (Jk a))/\w=w':=by
 by_cases h1:a=1
 ·subst h1;go_enter Tryz.func118,Tryz.ntmps118;go_wp2;go_ret;exact⟨rfl,rfl⟩
 by_cases h2:a=2
 ·subst h2;go_enter Tryz.func118,Tryz.ntmps118;go_wp2;go_ret;exact⟨rfl,rfl⟩
 by_cases h3:a=3
 ·subst h3;go_enter Tryz.func118,Tryz.ntmps118;go_wp2;go_ret;exact⟨rfl,rfl⟩
 by_cases h4:a=4
 ·subst h4;go_enter Tryz.func118,Tryz.ntmps118;go_wp2;go_ret;exact⟨rfl,rfl⟩
 ·have b:Hid (Jk a=0):=by unfold Hid Jk;rw[if_neg (by omega)]
  rw[b.out];go_enter Tryz.func118,Tryz.ntmps118;go_wp2;go_ret;exact⟨rfl,rfl⟩
theorem Pe (op:Int) (w:World):Calls Tryz.prog 117 #[.int .i64 op] w fun e w' => ∃ (a:Option Addr) (n c:Nat) (t:Int),e = .returned (.tuple #[.slice a n c,.int .i64 t])/\(1<=op/\op<=12->t=Ci op)/\Below w.heap.size w w':=by
 by_cases h:1<=op/\op<=12
 ·refine(Js op h.1 h.2 w).mono ?_;rintro e w' ⟨⟨g,n,d,_,_⟩,b⟩;exact⟨_,_,_,_,d,fun _=>rfl,b⟩
 ·have j:¬ op=1:=by omega
  have k:¬ op=2:=by omega
  have l:¬ op=3:=by omega
  have m:¬ op=4:=by omega
  have o:¬ op=5:=by omega
  have p:¬ op=6:=by omega
  have q:¬ op=7:=by omega
  have r:¬ op=8:=by omega
  have s:¬ op=9:=by omega
  have f:¬ op=10:=by omega
  have i:¬ op=12:=by omega
  have H:Hid (¬ (1<=op/\op<=12)):=h;clear h;go_enter Tryz.func117,Tryz.ntmps117;go_wp2;go_ret2;exact⟨_,_,_,_,rfl,fun h=>absurd h H.out,(Below.refl _ w).alloc (Nat.le_refl _) _⟩
def I2 (c:List Ae) (i:Ay) (op a:Int) (w:World) (e:Ending) (w':World):Prop := ∃ t b,e = .returned (.tuple #[.int .i64 t,.bool b])/\(b=true ↔ i.op=op/\i.a=a)/\(b=true->t=C4 c op a)/\Below w.heap.size w w'
theorem Fq {A:Nat} {w:World} {fs:List Fa} {a:Option Addr} {cap:Nat} (h:Cf A w (.slice a fs.length cap) fs) (k:Nat) (hk:k < fs.length):∃ g c d f i,a=some ⟨g,0,none⟩/\g < w.heap.size/\(w.cell? ⟨g,k * 5,none⟩=some (.int .i64 fs[k].code)/\w.cell? ⟨g,k * 5+1,none⟩=some (.int .i64 fs[k].fn)/\w.cell? ⟨g,k * 5+2,none⟩=some (.int .i64 fs[k].at')/\w.cell? ⟨g,k * 5+3,none⟩=some (.slice c fs[k].slots.length d)/\w.cell? ⟨g,k * 5+4,none⟩=some (.slice f fs[k].stack.length i))/\Dq w (.slice c fs[k].slots.length d) fs[k].slots/\Dq w (.slice f fs[k].stack.length i) fs[k].stack:=by
 obtain⟨q,j,e,p⟩:=h;injection e with e1 e2 e3;subst e1;obtain⟨g,c,d,f,i,l,r,m,b,n,o⟩:=p k hk;exact⟨g,c,d,f,i,l,m,⟨b 0 (by omega),b 1 (by omega),b 2 (by omega),b 3 (by omega),b 4 (by omega)⟩,Hb n,Hb o⟩
theorem Uw (m:Ea) (ca aa oa fa ia sa:Option Addr) (cc ac oc fc ic sc:Nat) (A:Nat) (w:World) (hF:Cf A w (.slice fa m.frames.length fc) m.frames) (hl:m.frames.length<=1048576) (k:Nat) (hk:k+1=m.frames.length) (hkd:1<=m.kind/\m.kind<=4) (c:List Ae) (i:Ay) (hi:1<=i.op/\(i.op=8->1<=i.a/\i.a<=12)):Calls Tryz.prog 87 #[.agg #[.slice ca m.codes.length cc,.slice aa m.args.length ac,.slice oa m.outs.length oc,.slice fa m.frames.length fc,.int .i64 m.steps,.int .i64 m.looks,.int .i64 m.kind,.string m.name,.string m.hold,.bool m.over,.int .i64 m.fin,.string m.text,.slice ia m.files.length ic,.slice sa m.said.length sc],.int .i64 (k:Int),Ak i] w (I2 c i 8 m.kind w):=by
 obtain⟨n,Z⟩:∃ n,Hid (m.frames.length=n):=⟨_,(rfl:m.frames.length=_)⟩;obtain⟨g,x,y,z,B,eg,hg,⟨e0,e1,e2,Q,R⟩,-,-⟩:=Fq hF k (by omega);subst eg;obtain⟨f,T⟩:∃ f,m.frames[k]'(by omega)=f:=⟨_,rfl⟩;rw[T]at e0 e1 e2 Q R;rw[Z.out]at hk hl |-
 obtain⟨L,H⟩:∃ n,Hid (f.slots.length=n):=⟨_,(rfl:f.slots.length=_)⟩;obtain⟨M,I⟩:∃ n,Hid (f.stack.length=n):=⟨_,(rfl:f.stack.length=_)⟩;rw[H.out]at Q;rw[I.out]at R;have K:(n:Int) - 1=(k:Int):=by omega
 have ad:(k:Int) < (n:Int):=by omega
 have ae:wrap64 ((n:Int) - 1)=(k:Int):=by rw[K];exact IntWalk.wrap64_in _ (by omega)
 clear T hF;unfold Ak;have S:Hid (1<=m.kind/\m.kind<=4):=hkd;have N:Hid (1<=i.op/\(i.op=8->1<=i.a/\i.a<=12)):=hi;clear hkd hi hk;have C:Gf:=trivial;by_cases h8:i.op=8
 ·by_cases h5:i.a < 5
  ·have o:(i.op == 8)=true:=(by simp[h8]);clear h8;go_enter Tryz.func87,Tryz.ntmps87;go_wp2_with (go_at_call 117;have _t:=C;clear C;obtain⟨Y,q,D,s,r,E,b⟩:=Ms w (.cells #[.slice ca m.codes.length cc,.slice aa m.args.length ac,.slice oa m.outs.length oc,.slice (some ⟨g,0,none⟩) n fc,.int .i64 m.steps,.int .i64 m.looks,.int .i64 m.kind,.string m.name,.string m.hold,.bool m.over,.int .i64 m.fin,.string m.text,.slice ia m.files.length ic,.slice sa m.said.length sc] 34) (.cells #[.int .i64 i.op,.int .i64 i.a,.int .i64 i.n,.string i.text] 107) (.cells #[.int .i64 f.code,.int .i64 f.fn,.int .i64 f.at',.slice x L y,.slice z M B] 91);rw[q];refine(Pe i.a Y).mono ?_;rintro e F ⟨O,U,P,t,rfl,d,a⟩;have p:Hid (1<=i.a/\i.a<=12->t=Ci i.a):=d;clear d;have u:=(a.block _ (by omega)).trans s;have l:=(a.block _ (by omega)).trans r;obtain⟨X,-⟩:=Aa u 6 _ rfl;obtain⟨V,-⟩:=Aa l 0 _ rfl;obtain⟨W,-⟩:=Aa l 1 _ rfl;have j:Hid (Below w.heap.size w F):=b.trans (a.mono b.size);clear b a s r E q u l);go_quiet (first|(go_at_call 118;refine Dx (Zv _ _)));have p:=p.out;go_wp2_with fail;go_ret2;refine⟨_,_,rfl, ?_, ?_,Al _ j.out⟩
   ·have:=S.out;have G:i.op=8:=(by simpa using o);have J:=N.out.2 G;unfold Jk;rw[if_pos (by omega)];simp[G]
   ·intro hb;have G:i.op=8:=(by simpa using o);have J:=N.out.2 G;have v:Jk i.a=m.kind:=(by simpa using hb);unfold Jk at v;rw[if_pos (by omega)]at v;unfold C4;rw[if_neg (by omega),p (by omega),v]
  ·have o:(i.op == 8)=true:=(by simp[h8]);have ab:decide (i.a < 5)=false:=(by simp[h5]);clear h8;go_enter Tryz.func87,Tryz.ntmps87;go_wp2_with (go_at_call 117;have _t:=C;clear C;obtain⟨Y,q,D,s,r,E,b⟩:=Ms w (.cells #[.slice ca m.codes.length cc,.slice aa m.args.length ac,.slice oa m.outs.length oc,.slice (some ⟨g,0,none⟩) n fc,.int .i64 m.steps,.int .i64 m.looks,.int .i64 m.kind,.string m.name,.string m.hold,.bool m.over,.int .i64 m.fin,.string m.text,.slice ia m.files.length ic,.slice sa m.said.length sc] 34) (.cells #[.int .i64 i.op,.int .i64 i.a,.int .i64 i.n,.string i.text] 107) (.cells #[.int .i64 f.code,.int .i64 f.fn,.int .i64 f.at',.slice x L y,.slice z M B] 91);rw[q];refine(Pe i.a Y).mono ?_;rintro e F ⟨O,U,P,t,rfl,d,a⟩;have p:Hid (1<=i.a/\i.a<=12->t=Ci i.a):=d;clear d;have u:=(a.block _ (by omega)).trans s;have l:=(a.block _ (by omega)).trans r;obtain⟨X,-⟩:=Aa u 6 _ rfl;obtain⟨V,-⟩:=Aa l 0 _ rfl;obtain⟨W,-⟩:=Aa l 1 _ rfl;have j:Hid (Below w.heap.size w F):=b.trans (a.mono b.size);clear b a s r E q u l);go_quiet (fail);have p:=p.out;go_wp2_with fail;go_ret2;refine⟨_,_,rfl,⟨fun h=>by simp at h,fun h => ?_⟩,fun h=>by simp at h,Al _ j.out⟩;have:=S.out;omega
 ·have o:(i.op == 8)=false:=by simp[h8]
  go_enter Tryz.func87,Tryz.ntmps87;go_wp2_with (go_at_call 117;have _t:=C;clear C;obtain⟨Y,q,D,s,r,E,b⟩:=Ms w (.cells #[.slice ca m.codes.length cc,.slice aa m.args.length ac,.slice oa m.outs.length oc,.slice (some ⟨g,0,none⟩) n fc,.int .i64 m.steps,.int .i64 m.looks,.int .i64 m.kind,.string m.name,.string m.hold,.bool m.over,.int .i64 m.fin,.string m.text,.slice ia m.files.length ic,.slice sa m.said.length sc] 34) (.cells #[.int .i64 i.op,.int .i64 i.a,.int .i64 i.n,.string i.text] 107) (.cells #[.int .i64 f.code,.int .i64 f.fn,.int .i64 f.at',.slice x L y,.slice z M B] 91);rw[q];refine(Pe i.a Y).mono ?_;rintro e F ⟨O,U,P,t,rfl,d,a⟩;have p:Hid (1<=i.a/\i.a<=12->t=Ci i.a):=d;clear d;have u:=(a.block _ (by omega)).trans s;have l:=(a.block _ (by omega)).trans r;obtain⟨X,-⟩:=Aa u 6 _ rfl;obtain⟨V,-⟩:=Aa l 0 _ rfl;obtain⟨W,-⟩:=Aa l 1 _ rfl;have j:Hid (Below w.heap.size w F):=b.trans (a.mono b.size);clear b a s r E q u l);go_quiet (fail);have p:=p.out;go_wp2_with fail;go_ret2;refine⟨_,_,rfl,⟨fun h=>by simp at h,fun h=>absurd h.1 h8⟩,fun h=>by simp at h,Al _ j.out⟩
theorem F1 {A:Nat} {w:World} {cs:List (List Ae)} {a:Option Addr} {cap:Nat} (h:A8 A w (.slice a cs.length cap) cs) (j:Nat) (hj:j < cs.length):∃ g p,a=some ⟨g,0,none⟩/\g < w.heap.size/\w.cell? ⟨g,j,none⟩=some (.slice p cs[j].length cs[j].length)/\An w.heap.size w (.slice p cs[j].length cs[j].length) cs[j]:=by
 obtain⟨l,b,e,k⟩:=h;injection e with e1 e2 e3;subst e1;obtain⟨g,p,c,m,d,f,i⟩:=k j hj;exact⟨g,p,c,d,f,i.code⟩
theorem Xm (m:Ea) (ca aa oa fa ia sa:Option Addr) (cc ac oc fc ic sc:Nat) (A:Nat) (w:World) (hF:Cf A w (.slice fa m.frames.length fc) m.frames) (hC:A8 A w (.slice ca m.codes.length cc) m.codes) (hl:m.frames.length<=1048576) (_hl2:m.codes.length<=1048576) (k:Nat) (hk:k+1 < m.frames.length) (j:Nat) (hj:j < m.codes.length) (hcd:(m.frames[k]'(by omega)).code=(j:Int)) (c:List Ae) (hc:m.codes[j]=c) (_hcl:c.length<=60) (i:Ay) (hi:i.op=9->0<=i.a/\i.a < (c.length:Int)):Calls Tryz.prog 87 #[.agg #[.slice ca m.codes.length cc,.slice aa m.args.length ac,.slice oa m.outs.length oc,.slice fa m.frames.length fc,.int .i64 m.steps,.int .i64 m.looks,.int .i64 m.kind,.string m.name,.string m.hold,.bool m.over,.int .i64 m.fin,.string m.text,.slice ia m.files.length ic,.slice sa m.said.length sc],.int .i64 (k:Int),Ak i] w (fun e w'=>if m.frames[k+1].code=(j:Int) then I2 c i 9 m.frames[k+1].fn w e w' else I2 c i 8 4 w e w'):=by
 obtain⟨n,HN⟩:∃ n,Hid (m.frames.length=n):=⟨_,(rfl:m.frames.length=_)⟩;obtain⟨nc,H⟩:∃ n,Hid (m.codes.length=n):=⟨_,(rfl:m.codes.length=_)⟩;obtain⟨g,ao,ap,aq,ar,eg,v,⟨Y,e1,e2,Z,e4⟩,-,-⟩:=Fq hF k (by omega);obtain⟨g',M,N,O,P,l,-,⟨Q,R,S,x,y⟩,-,-⟩:=Fq hF (k+1) hk;subst eg;injection l with l;injection l with l;subst l;obtain⟨gc,pc,ec,J,T,o⟩:=F1 hC j hj;subst ec;rw[hc]at T o;obtain⟨f,hf⟩:∃ f,m.frames[k]'(by omega)=f:=⟨_,rfl⟩;obtain⟨a,u⟩:∃ f,m.frames[k+1]=f:=⟨_,rfl⟩;rw[hf]at Y e1 e2 Z e4 hcd;rw[u]at Q R S x y |-
 rw[hcd]at Y;rw[HN.out]at hk hl |-
 rw[H.out]at hj |-
 obtain⟨n1,D⟩:∃ n,Hid (f.slots.length=n):=⟨_,(rfl:f.slots.length=_)⟩;obtain⟨n2,E⟩:∃ n,Hid (f.stack.length=n):=⟨_,(rfl:f.stack.length=_)⟩;obtain⟨n3,F⟩:∃ n,Hid (a.slots.length=n):=⟨_,(rfl:a.slots.length=_)⟩;obtain⟨n4,G⟩:∃ n,Hid (a.stack.length=n):=⟨_,(rfl:a.stack.length=_)⟩;rw[D.out]at Z;rw[E.out]at e4;rw[F.out]at x;rw[G.out]at y;have L:¬ (k:Int)=(n:Int) - 1:=by omega
 have ad:((k:Int) == (n:Int) - 1)=false:=by simpa using L
 have ai:(k:Int)+1 < (n:Int):=by omega
 have ab:(k:Int) < (n:Int):=by omega
 have ah:(j:Int) < (nc:Int):=by omega
 have U0:∀ o1 o2 o3,(((w.alloc o1).alloc o2).alloc o3).cell? ⟨g,(k+1) * 5,none⟩=some (.int .i64 a.code):=fun o1 o2 o3=>((Ga w o1 o2 o3).cell (p:=⟨g,(k+1) * 5,none⟩) v).trans Q
 have U1:∀ o1 o2 o3,(((w.alloc o1).alloc o2).alloc o3).cell? ⟨g,(k+1) * 5+1,none⟩=some (.int .i64 a.fn):=fun o1 o2 o3=>((Ga w o1 o2 o3).cell (p:=⟨g,(k+1) * 5+1,none⟩) v).trans R
 have U2:∀ o1 o2 o3,(((w.alloc o1).alloc o2).alloc o3).cell? ⟨g,(k+1) * 5+2,none⟩=some (.int .i64 a.at'):=fun o1 o2 o3=>((Ga w o1 o2 o3).cell (p:=⟨g,(k+1) * 5+2,none⟩) v).trans S
 have U3:∀ o1 o2 o3,(((w.alloc o1).alloc o2).alloc o3).cell? ⟨g,(k+1) * 5+3,none⟩=some (.slice M n3 N):=fun o1 o2 o3=>((Ga w o1 o2 o3).cell (p:=⟨g,(k+1) * 5+3,none⟩) v).trans x
 have U4:∀ o1 o2 o3,(((w.alloc o1).alloc o2).alloc o3).cell? ⟨g,(k+1) * 5+4,none⟩=some (.slice O n4 P):=fun o1 o2 o3=>((Ga w o1 o2 o3).cell (p:=⟨g,(k+1) * 5+4,none⟩) v).trans y
 have z:∀ o1 o2 o3 o4,Below w.heap.size w ((((w.alloc o1).alloc o2).alloc o3).alloc o4):=fun o1 o2 o3 o4=>(Ga w o1 o2 o3).alloc (by simp;omega) o4
 have d:Hid (∀ o1 o2 o3 o4,Below w.heap.size w ((((w.alloc o1).alloc o2).alloc o3).alloc o4)):=z;have V0:∀ o1 o2 o3 o4,((((w.alloc o1).alloc o2).alloc o3).alloc o4).cell? ⟨gc,j,none⟩=some (.slice pc c.length c.length):=fun o1 o2 o3 o4=>((z o1 o2 o3 o4).cell (p:=⟨gc,j,none⟩) J).trans T
 clear hf u hF hC hcd hc Q R S x y T z;unfold Ak;have U:Hid (i.op=9->0<=i.a/\i.a < (c.length:Int)):=hi;clear hi;by_cases hsame:a.code=(j:Int)
 ·simp only[if_pos hsame];simp only[hsame]at U0;clear hsame;by_cases h9:i.op=9/\i.a=a.fn
  ·obtain⟨b,r⟩:∃ b:Nat,i.a=(b:Int):=⟨i.a.toNat,by have:=U.out h9.1;omega⟩;have t:b < c.length:=(by have:=U.out h9.1;omega);obtain⟨gf,W,pa,an,al,am,ev,K,d0,d1,X,d3,d4,-,-⟩:=o.fn b t;injection ev with ev1 ev2 ev3;subst ev1;obtain⟨nl,q⟩:∃ n,Hid (c.length=n):=⟨_,(rfl:c.length=_)⟩;rw[q.out]at t;simp only[q.out]at V0;have af:(b:Int) < (nl:Int):=(by omega);have ak:(i.op != 9)=false:=(by simp[h9.1]);have ag:((b:Int) != (b:Int))=false:=(by simp);have C:Hid (i.op=9/\i.a=a.fn):=h9;have V:Hid (C4 c 9 a.fn=c[b].result):=by
    rw[Hid,C4,if_pos rfl,<- h9.2,r,Int.toNat_natCast,List.getD_eq_getElem?_getD,List.getElem?_eq_getElem];rfl
   have s:a.fn=(b:Int):=(by rw[<- h9.2];exact r);simp only[s]at U1;rw[r];have D2:∀ o1 o2 o3 o4,((((w.alloc o1).alloc o2).alloc o3).alloc o4).cell? ⟨gf,b * 5+2,none⟩=some (.int .i64 c[b].result):=fun o1 o2 o3 o4=>((d.out o1 o2 o3 o4).cell (p:=⟨gf,b * 5+2,none⟩) K).trans X
   generalize hres:c[b].result=res at D2 V;clear h9 o d0 d1 X d3 d4 hres ev2 ev3 s;have ae:Hid (i.a=(b:Int)):=r;clear r;go_enter Tryz.func87,Tryz.ntmps87;go_wp2_with fail;go_quiet (fail);go_wp2_with fail;go_ret2;refine⟨_,_,rfl,⟨fun _=>C.out,fun _=>rfl⟩,fun _=>V.out.symm,Al _ ?_⟩;exact d.out _ _ _ _
  ·have hx:(i.op != 9)=true\/((i.op != 9)=false/\(i.a != a.fn)=true):=by
    by_cases h:i.op=9
    ·right;exact⟨by simp[h],by simp;intro e;exact h9 ⟨h,e⟩⟩
    ·left;simpa using h
   have C:Hid (¬ (i.op=9/\i.a=a.fn)):=h9;clear h9 o;rcases hx with h1|⟨h1,h2⟩
   all_goals
    go_enter Tryz.func87,Tryz.ntmps87;go_wp2_with fail;go_ret2;refine⟨_,_,rfl,⟨fun h=>by simp at h,fun h=>absurd h C.out⟩,fun h=>by simp at h, ?_⟩;exact d.out _ _ _ _
 ·simp only[if_neg hsame];have aj:(a.code != (j:Int))=true:=by simpa using hsame
  clear o;by_cases h8:i.op=8
  ·have I:(i.op == 8)=true:=(by simp[h8]);have B:Hid (i.op=8):=h8;clear h8;go_enter Tryz.func87,Tryz.ntmps87;go_wp2_with fail;go_quiet (fail);go_wp2_with fail;go_ret2;refine⟨_,_,rfl,by simp[B.out],fun _=>by simp[C4,Ci],Al _ ?_⟩;exact d.out _ _ _ _
  ·have I:(i.op == 8)=false:=(by simp[h8]);have B:Hid (¬ i.op=8):=h8;clear h8;go_enter Tryz.func87,Tryz.ntmps87;go_wp2_with fail;go_quiet (fail);go_wp2_with fail;go_ret2;refine⟨_,_,rfl,⟨fun h=>by simp at h,fun h=>absurd h.1 B.out⟩,fun h=>by simp at h,Al _ ?_⟩;exact d.out _ _ _ _
theorem Qb9 (c:List Ae) (fn:Ae) (i:Ay) (s0 t0:List Int) (h8:i.op=8) (h:(Ag c fn i s0 t0).2.2=true):(Ag c fn i s0 t0).2.1=[Ci i.a]:=by
 have e:Ag c fn i s0 t0=if t0.length < (Bk i.a).length then (0,[],false) else ((Bk i.a).length,[C1 i.a (t0.drop (t0.length - (Bk i.a).length))],decide (C1 i.a (t0.drop (t0.length - (Bk i.a).length))≠0)):=by
  unfold Ag;rw[if_neg (by omega),if_neg (by omega),if_neg (by omega),if_neg (by omega),if_neg (by omega),if_neg (by omega),if_pos h8]
 rw[e]at h |-
 by_cases hl:t0.length < (Bk i.a).length
 ·rw[if_pos hl]at h;simp at h
 ·rw[if_neg hl]at h |-
  have a:C1 i.a (t0.drop (t0.length - (Bk i.a).length))≠0:=by simpa using h
  show [C1 i.a (t0.drop (t0.length - (Bk i.a).length))]=[Ci i.a]
  unfold C1 at a |-
  by_cases hf:E2 (Bk i.a) (t0.drop (t0.length - (Bk i.a).length))=true
  ·rw[if_pos hf]
  ·rw[if_neg hf]at a;exact absurd rfl a
theorem Qca (c:List Ae) (fn:Ae) (i:Ay) (s0 t0:List Int) (h9:i.op=9) (hr:(c.getD i.a.toNat A6).result≠0) (h:(Ag c fn i s0 t0).2.2=true):(Ag c fn i s0 t0).2.1=[(c.getD i.a.toNat A6).result]:=by
  have e:Ag c fn i s0 t0=(if t0.length < (c.getD i.a.toNat A6).params.length then (0,[],false)
     else if t0.drop (t0.length - (c.getD i.a.toNat A6).params.length)=(c.getD i.a.toNat A6).params then
       ((c.getD i.a.toNat A6).params.length,if (c.getD i.a.toNat A6).result=0 then [] else [(c.getD i.a.toNat A6).result],true)
     else (0,[],false)):=by
    unfold Ag;rw[if_neg (by omega),if_neg (by omega),if_neg (by omega),if_neg (by omega),if_neg (by omega),if_neg (by omega),if_neg (by omega),if_pos h9]
  rw[e]at h |-
  split at h
  · simp at h
  · rename_i h1
    split at h
    · rename_i h2
      rw[if_neg h1,if_pos h2];show (if (c.getD i.a.toNat A6).result=0 then [] else [(c.getD i.a.toNat A6).result])=_
      rw[if_neg hr]
    · simp at h
theorem Sv {c:List Ae} {fn:Ae} {X:List Ao} {v:Nat} {s0 t0 s t:List Int} {op a:Int} (hX:Cl c fn X) (hv:v+1 < fn.ins.length) (h0:Aj X v = .known s0 t0) (h1:Aj X (v+1) = .known s t) (ho:(fn.ins.getD v Cv).op=op) (ha:(fn.ins.getD v Cv).a=a) (h89:op=8\/op=9) (hw:C4 c op a≠0) :
  ∃ k,t=k++[C4 c op a]:=by
 have g:=hX.2.stab v (by show v < fn.ins.length;omega) (by rw[h0];simp) (v+1) (by
  show v+1 ∈ A5 (fn.ins.getD v Cv) v
  unfold A5
  rw[ho]
  rcases h89 with rfl|rfl <;> simp) (by show v+1 < fn.ins.length;omega)
 rw[h0,h1]at g;have b:C8 (Bj c fn (fn.ins.getD v Cv) v s0 t0) (.known s t):=g;unfold Bj at b;split at b
 ·exact absurd b (by simp[C8])
 ·rename_i hg
  split at b
  ·exact absurd b (by simp[C8])
  ·split at b
   ·exact absurd b (by simp[C8])
   ·have i:=b.1;have f:(Ag c fn (fn.ins.getD v Cv) s0 t0).2.2=true:=by
     cases h:(Ag c fn (fn.ins.getD v Cv) s0 t0).2.2
     ·exact absurd (Or.inl h) hg
     ·rfl
    refine⟨t0.take (t0.length - (Ag c fn (fn.ins.getD v Cv) s0 t0).1), ?_⟩;rw[<- i];congr 1;rcases h89 with rfl|rfl
    ·have d:C4 c 8 a=Ci a:=(by unfold C4;rw[if_neg (by omega)]);rw[d,Qb9 c fn _ s0 t0 ho f,ha]
    ·have d:C4 c 9 a=(c.getD a.toNat A6).result:=(by unfold C4;rw[if_pos rfl]);rw[d]at hw |-
     rw[Qca c fn _ s0 t0 ho (by rw[ha];exact hw) f,ha]
end Go.Proofs.YtahibkjkpmdhgaaGreatDoor
