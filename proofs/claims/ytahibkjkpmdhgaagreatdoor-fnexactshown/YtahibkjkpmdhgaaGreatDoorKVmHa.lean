import Derived.Test.YtahibkjkpmdhgaaGreatDoorKVmG
import Derived.Test.YtahibkjkpmdhgaaGreatDoorKCdYA
import Derived.Test.YtahibkjkpmdhgaaGreatDoorKCeJ
set_option maxRecDepth 100000
set_option maxHeartbeats 4000000
namespace Go.Proofs.YtahibkjkpmdhgaaGreatDoor
open Go.RowKit
def Eh (P:Prop) (w:World) (e:Ending) (w':World):Prop := ∃ b,e = .returned (.bool b)/\(b=true ↔ P)/\OH w w'
theorem Mz {l:List ByteArray}:C6 l=true ↔ ∀ i (h:i < l.length),(l[i].size:Int)<=3000:=by
 unfold C6;rw[List.all_eq_true];constructor
 ·intro h i a;simpa using h _ (List.getElem_mem a)
 ·intro h x b;obtain⟨i,a,e⟩:=List.getElem_of_mem b;subst e;simpa using h i a
theorem Wa (l:List ByteArray) (M:Nat) (v:Value) (w:World) (hl:Rl l) (hM:M<=1000) (hN:Dw w v l):Calls Tryz.prog 21 #[v,.int .i64 (M:Int)] w (Eh (Dy l M) w):=by
 have p:Hid (Dw w v l):=hN;obtain⟨a,q,u,-⟩:=hN;subst u;have s:l.length<=1048576:=hl.1;have n:Hid (∀ d ∈ l,d.size<=1048576):=hl.2;clear hl;by_cases hm:l.length<=M
 ·have c:¬ (M:Int) < (l.length:Int):=Ou
  go_enter Tryz.func21,Tryz.ntmps21;go_wp2;go_loopw [5] (fun t wr => ∃ i:Nat,i<=l.length/\t = .int .i64 (i:Int)/\wr=w/\Hid (∀ k (_:k < i) (h:k < l.length),(l[k].size:Int)<=3000)) (fun t _=>l.length - (intOf t).toNat);case atStart=>exact⟨0,by omega,rfl,rfl,fun k h=>Ou⟩
  case round =>
   obtain⟨i,A,rfl,rfl,f⟩:=hrel;by_cases hlt:i < l.length
   ·have b:(i:Int) < (l.length:Int):=Ou;obtain⟨x,j,e,m⟩:=p.out;injection e with e e2 e3;subst e e3;obtain⟨g,o,r,z,y⟩:=m i hlt;subst r;have B:l[i].size<=1048576:=n.out _ (List.getElem_mem hlt);clear m;by_cases hz:(3000:Int) < (l[i].size:Int)
    ·go_wp2;go_ret;refine⟨false,rfl,⟨fun h=>by simp at h,fun h => ?_⟩,Below.refl _ _⟩;have:=Mz.1 h.2 i hlt;omega
    ·go_wp2;go_roundw;case rel =>
      refine⟨i+1,by omega,by go_num,trivial,fun k hk h => ?_⟩;by_cases e:k=i
      ·subst e;omega
      ·exact f.out k Ou h
     case measure=>simp[intOf];omega
   ·have b:¬ (i:Int) < (l.length:Int):=Ou;go_wp2;go_ret;exact⟨true,rfl,⟨fun _=>⟨hm,Mz.2 (fun k h=>f.out k Ou h)⟩,fun _=>rfl⟩,Below.refl _ _⟩
 ·have c:(M:Int) < (l.length:Int):=Ou
  go_enter Tryz.func21,Tryz.ntmps21;go_wp2;go_ret;exact⟨false,rfl,⟨fun h=>by simp at h,fun h=>absurd h.1 hm⟩,Below.refl _ _⟩
theorem Qep (n low high:Int) (w:World):Calls Tryz.prog 22 #[.int .i64 n,.int .i64 low,.int .i64 high] w fun e w'=>(e = .returned (.bool true)/\low<=n/\n<=high/\w=w')\/(e = .returned (.bool false)/\¬ (low<=n/\n<=high)/\w=w'):=by
 refine(Cf n low high w).mono ?_;rintro e w' ⟨rfl,rfl⟩;by_cases h:low<=n/\n<=high
 ·exact .inl ⟨by simp[As,h],h.1,h.2,rfl⟩
 ·refine .inr ⟨?_,h,rfl⟩;have:As n low high=false:=by simp[As];omega
  rw[this]
theorem Qc6 (m:Ds) (ca aa oa fa ia sa:Option Addr) (cc ac oc fc ic sc:Nat) (hs:H4 m) (w:World):Calls Tryz.prog 23 #[.agg #[.slice ca m.codes.length cc,.slice aa m.args.length ac,.slice oa m.outs.length oc,.slice fa m.frames.length fc,.int .i64 m.steps,.int .i64 m.looks,.int .i64 m.kind,.string m.name,.string m.hold,.bool m.over,.int .i64 m.fin,.string m.text,.slice ia m.files.length ic,.slice sa m.said.length sc]] w (Eh (F2 m) w):=by
 have a:m.codes.length<=1048576:=hs.codes.1;have b:m.args.length<=1048576:=hs.args.1;have c:m.outs.length<=1048576:=hs.outs.1;have d:m.frames.length<=1048576:=hs.frames.1;have f:m.files.length<=1048576:=hs.files.1;have g:m.text.size<=1048576:=hs.text;clear hs;go_enter Tryz.func23,Tryz.ntmps23;go_wp2_with (go_at_call 22;refine(Qep _ _ _ _).mono ?_;rintro e w' (⟨rfl,q1,q2,rfl⟩|⟨rfl,q1,rfl⟩));all_goals (go_ret;refine⟨_,rfl, ?_,Ao w _⟩;unfold F2;grind)
theorem Qc7 (m:Ds) (ca aa oa fa ia sa:Option Addr) (cc ac oc fc ic sc:Nat) (hs:H4 m) (w:World):Calls Tryz.prog 25 #[.agg #[.slice ca m.codes.length cc,.slice aa m.args.length ac,.slice oa m.outs.length oc,.slice fa m.frames.length fc,.int .i64 m.steps,.int .i64 m.looks,.int .i64 m.kind,.string m.name,.string m.hold,.bool m.over,.int .i64 m.fin,.string m.text,.slice ia m.files.length ic,.slice sa m.said.length sc]] w (Eh (C7 m) w):=by
 have f:m.name.size<=1048576:=hs.name;have g:m.hold.size<=1048576:=hs.hold;clear hs;cases a:C4 m.name <;> cases b:Do m.name
 all_goals
  have c:Hid (C4 m.name=_):=a;have d:Hid (Do m.name=_):=b;clear a b;go_enter Tryz.func25,Tryz.ntmps25;go_wp2_with (first
   | (go_at_call 22;refine(Qep _ _ _ _).mono ?_;rintro e w' (⟨rfl,q1,q2,rfl⟩|⟨rfl,q1,rfl⟩))
   | (go_at_call 54;refine(Pc m.name f _).mono ?_;rintro e w' ⟨rfl,rfl⟩;rw[c.out])
   | (go_at_call 53;refine(Su m.name f _).mono ?_;rintro e w' ⟨rfl,rfl⟩;rw[d.out]))
  all_goals (go_ret;have a:=c.out;have b:=d.out;refine⟨_,rfl, ?_,Ao w _⟩;unfold C7;grind)
theorem Vu {c:List Af} {r:Int × Int × Int} (h:Dj c r):r.1=0 ↔ Bd c:=by
 constructor
 ·intro a;have b:=h;unfold Bd;by_cases hp:(B8 c).1≠0
  ·unfold Dj at b;rw[if_pos hp]at b;rw[b]at a;exact absurd a hp
  ·unfold Dj at b |-
   rw[if_neg hp]at b |-
   obtain⟨g,l,m,n⟩:=b;refine⟨g,l,m,.inr ⟨?_,rfl⟩⟩;rcases n with⟨k,u,f,o,p,q,i,j,d⟩|⟨f,o⟩
   ·rw[d]at a;simp at a
   ·exact f
 ·intro a;rw[Dj.one h a]
theorem Qfs (c:List Af) (ca:Option Addr) (cc:Nat) (hs:Oe c) (w:World) (hC:Al w.heap.size w (.slice ca c.length cc) c):Calls Tryz.prog 26 #[.agg #[.slice ca c.length cc]] w (Eh (Bd c) w):=by
 have g:Hid (∀ U,OH w U->Calls Tryz.prog 55 #[.agg #[.slice ca c.length cc]] U (Py c U)):=fun U hU=>Qx c ca cc hs.1 (fun k hk=>(hs.2 _ (List.getElem_mem hk)).2) U (by have h:=hC.below hU;exact Al.mono h hU.size)
 clear hC hs;go_enter Tryz.func26,Tryz.ntmps26;go_wp2_with (go_at_call 55;refine(g.out _ (Ao w _)).mono ?_;rintro e m ⟨⟨⟨i,j,l⟩,rfl,f⟩,b⟩;have d:=Vu f;have a:Hid (i=0 ↔ Bd c):=d;clear d f;simp only[Zw]);all_goals (go_ret;refine⟨_,rfl, ?_,(Ao w _).trans (b.mono OB)⟩;rw[<- a.out];simp)
def Kj (a:Int):Int:=if 1<=a/\a<=4 then a else 0
theorem Qc1 (a:Int) (w:World):Calls Tryz.prog 118 #[.int .i64 a] w fun e w'=>e = .returned (.int .i64 (Kj a))/\w=w':=by
 by_cases h1:a=1
 ·subst h1;go_enter Tryz.func118,Tryz.ntmps118;go_wp2;go_ret;exact⟨rfl,rfl⟩
 by_cases h2:a=2
 ·subst h2;go_enter Tryz.func118,Tryz.ntmps118;go_wp2;go_ret;exact⟨rfl,rfl⟩
 by_cases h3:a=3
 ·subst h3;go_enter Tryz.func118,Tryz.ntmps118;go_wp2;go_ret;exact⟨rfl,rfl⟩
 by_cases h4:a=4
 ·subst h4;go_enter Tryz.func118,Tryz.ntmps118;go_wp2;go_ret;exact⟨rfl,rfl⟩
 ·have b:Hid (Kj a=0):=by unfold Hid Kj;rw[if_neg Ou]
  rw[b.out];go_enter Tryz.func118,Tryz.ntmps118;go_wp2;go_ret;exact⟨rfl,rfl⟩
theorem Rm (op:Int) (w:World):Calls Tryz.prog 117 #[.int .i64 op] w fun e w' => ∃ (a:Option Addr) (n c:Nat) (t:Int),e = .returned (.tuple #[.slice a n c,.int .i64 t])/\(1<=op/\op<=12->t=Cm op)/\OH w w':=by
 by_cases h:1<=op/\op<=12
 ·refine(Ku op h.1 h.2 w).mono ?_;rintro e w' ⟨⟨g,n,d,_,_⟩,b⟩;exact⟨_,_,_,_,d,fun _=>rfl,b⟩
 ·have j:¬ op=1:=Ou
  have k:¬ op=2:=Ou
  have l:¬ op=3:=Ou
  have m:¬ op=4:=Ou
  have o:¬ op=5:=Ou
  have p:¬ op=6:=Ou
  have q:¬ op=7:=Ou
  have r:¬ op=8:=Ou
  have s:¬ op=9:=Ou
  have f:¬ op=10:=Ou
  have i:¬ op=12:=Ou
  have H:Hid (¬ (1<=op/\op<=12)):=h;clear h;go_enter Tryz.func117,Tryz.ntmps117;go_wp2;go_ret2;exact⟨_,_,_,_,rfl,fun h=>absurd h H.out,(Below.refl _ w).alloc (Nat.le_refl _) _⟩
def J1 (c:List Af) (i:Az) (op a:Int) (w:World) (e:Ending) (w':World):Prop := ∃ t b,e = .returned (.tuple #[.int .i64 t,.bool b])/\(b=true ↔ i.op=op/\i.a=a)/\(b=true->t=Dh c op a)/\OH w w'
theorem F9 {A:Nat} {w:World} {fs:List Fh} {a:Option Addr} {cap:Nat} (h:Cn A w (.slice a fs.length cap) fs) (k:Nat) (hk:k < fs.length):∃ g c d f i,a=some (OI g 0)/\g < w.heap.size/\(w.cell? (OI g (k * 5))=some (.int .i64 fs[k].code)/\w.cell? (OI g (k * 5+1))=some (.int .i64 fs[k].fn)/\w.cell? (OI g (k * 5+2))=some (.int .i64 fs[k].at')/\w.cell? (OI g (k * 5+3))=some (.slice c fs[k].slots.length d)/\w.cell? (OI g (k * 5+4))=some (.slice f fs[k].stack.length i))/\D6 w (.slice c fs[k].slots.length d) fs[k].slots/\D6 w (.slice f fs[k].stack.length i) fs[k].stack:=by
 obtain⟨q,j,e,p⟩:=h;injection e with e1 e2 e3;subst e1;obtain⟨g,c,d,f,i,l,r,m,b,n,o,-⟩:=p k hk;exact⟨g,c,d,f,i,l,m,⟨b 0 Ou,b 1 Ou,b 2 Ou,b 3 Ou,b 4 Ou⟩,H0 n,H0 o⟩
theorem X5 (m:Ds) (ca aa oa fa ia sa:Option Addr) (cc ac oc fc ic sc:Nat) (A:Nat) (w:World) (hF:Cn A w (.slice fa m.frames.length fc) m.frames) (hl:m.frames.length<=1048576) (k:Nat) (hk:k+1=m.frames.length) (hkd:1<=m.kind/\m.kind<=4) (c:List Af) (i:Az) (hi:1<=i.op/\(i.op=8->1<=i.a/\i.a<=12)):Calls Tryz.prog 87 #[.agg #[.slice ca m.codes.length cc,.slice aa m.args.length ac,.slice oa m.outs.length oc,.slice fa m.frames.length fc,.int .i64 m.steps,.int .i64 m.looks,.int .i64 m.kind,.string m.name,.string m.hold,.bool m.over,.int .i64 m.fin,.string m.text,.slice ia m.files.length ic,.slice sa m.said.length sc],.int .i64 (k:Int),Aw i] w (J1 c i 8 m.kind w):=by
 obtain⟨n,Z⟩:∃ n,Hid (m.frames.length=n):=⟨_,(rfl:m.frames.length=_)⟩;obtain⟨g,x,y,z,B,eg,hg,⟨e0,e1,e2,Q,R⟩,-,-⟩:=F9 hF k Ou;subst eg;obtain⟨f,T⟩:∃ f,m.frames[k]'Ou=f:=⟨_,rfl⟩;rw[T]at e0 e1 e2 Q R;rw[Z.out]at hk hl |-
 obtain⟨L,H⟩:∃ n,Hid (f.slots.length=n):=⟨_,(rfl:f.slots.length=_)⟩;obtain⟨M,I⟩:∃ n,Hid (f.stack.length=n):=⟨_,(rfl:f.stack.length=_)⟩;rw[H.out]at Q;rw[I.out]at R;have K:(n:Int) - 1=(k:Int):=Ou
 have ad:(k:Int) < (n:Int):=Ou
 have ae:wrap64 ((n:Int) - 1)=(k:Int):=by rw[K];exact IntWalk.wrap64_in _ Ou
 clear T hF;unfold Aw;have S:Hid (1<=m.kind/\m.kind<=4):=hkd;have N:Hid (1<=i.op/\(i.op=8->1<=i.a/\i.a<=12)):=hi;clear hkd hi hk;have C:Cv:=trivial;by_cases h8:i.op=8
 ·by_cases h5:i.a < 5
  ·have o:(i.op == 8)=true:=(by simp[h8]);clear h8;go_enter Tryz.func87,Tryz.ntmps87;go_wp2_with (go_at_call 117;have _t:=C;clear C;obtain⟨Y,q,D,s,r,E,b⟩:=Oh w (.cells #[.slice ca m.codes.length cc,.slice aa m.args.length ac,.slice oa m.outs.length oc,.slice (some (OI g 0)) n fc,.int .i64 m.steps,.int .i64 m.looks,.int .i64 m.kind,.string m.name,.string m.hold,.bool m.over,.int .i64 m.fin,.string m.text,.slice ia m.files.length ic,.slice sa m.said.length sc] 34) (.cells #[.int .i64 i.op,.int .i64 i.a,.int .i64 i.n,.string i.text] 107) (.cells #[.int .i64 f.code,.int .i64 f.fn,.int .i64 f.at',.slice x L y,.slice z M B] 91);rw[q];refine(Rm i.a Y).mono ?_;rintro e F ⟨O,U,P,t,rfl,d,a⟩;have p:Hid (1<=i.a/\i.a<=12->t=Cm i.a):=d;clear d;have u:=(a.block _ Ou).trans s;have l:=(a.block _ Ou).trans r;obtain⟨X,-⟩:=Aa u 6 _ rfl;obtain⟨V,-⟩:=Aa l 0 _ rfl;obtain⟨W,-⟩:=Aa l 1 _ rfl;have j:Hid (OH w F):=b.trans (a.mono b.size);clear b a s r E q u l);go_quiet (first|(go_at_call 118;refine Ee (Qc1 _ _)));have p:=p.out;go_wp2_with fail;go_ret2;refine⟨_,_,rfl, ?_, ?_,Aj _ j.out⟩
   ·have:=S.out;have G:i.op=8:=(by simpa using o);have J:=N.out.2 G;unfold Kj;rw[if_pos Ou];simp[G]
   ·intro hb;have G:i.op=8:=(by simpa using o);have J:=N.out.2 G;have v:Kj i.a=m.kind:=(by simpa using hb);unfold Kj at v;rw[if_pos Ou]at v;unfold Dh;rw[if_neg Ou,p Ou,v]
  ·have o:(i.op == 8)=true:=(by simp[h8]);have ab:decide (i.a < 5)=false:=(by simp[h5]);clear h8;go_enter Tryz.func87,Tryz.ntmps87;go_wp2_with (go_at_call 117;have _t:=C;clear C;obtain⟨Y,q,D,s,r,E,b⟩:=Oh w (.cells #[.slice ca m.codes.length cc,.slice aa m.args.length ac,.slice oa m.outs.length oc,.slice (some (OI g 0)) n fc,.int .i64 m.steps,.int .i64 m.looks,.int .i64 m.kind,.string m.name,.string m.hold,.bool m.over,.int .i64 m.fin,.string m.text,.slice ia m.files.length ic,.slice sa m.said.length sc] 34) (.cells #[.int .i64 i.op,.int .i64 i.a,.int .i64 i.n,.string i.text] 107) (.cells #[.int .i64 f.code,.int .i64 f.fn,.int .i64 f.at',.slice x L y,.slice z M B] 91);rw[q];refine(Rm i.a Y).mono ?_;rintro e F ⟨O,U,P,t,rfl,d,a⟩;have p:Hid (1<=i.a/\i.a<=12->t=Cm i.a):=d;clear d;have u:=(a.block _ Ou).trans s;have l:=(a.block _ Ou).trans r;obtain⟨X,-⟩:=Aa u 6 _ rfl;obtain⟨V,-⟩:=Aa l 0 _ rfl;obtain⟨W,-⟩:=Aa l 1 _ rfl;have j:Hid (OH w F):=b.trans (a.mono b.size);clear b a s r E q u l);go_quiet (fail);have p:=p.out;go_wp2_with fail;go_ret2;refine⟨_,_,rfl,⟨fun h=>by simp at h,fun h => ?_⟩,fun h=>by simp at h,Aj _ j.out⟩;have:=S.out;omega
 ·have o:(i.op == 8)=false:=by simp[h8]
  go_enter Tryz.func87,Tryz.ntmps87;go_wp2_with (go_at_call 117;have _t:=C;clear C;obtain⟨Y,q,D,s,r,E,b⟩:=Oh w (.cells #[.slice ca m.codes.length cc,.slice aa m.args.length ac,.slice oa m.outs.length oc,.slice (some (OI g 0)) n fc,.int .i64 m.steps,.int .i64 m.looks,.int .i64 m.kind,.string m.name,.string m.hold,.bool m.over,.int .i64 m.fin,.string m.text,.slice ia m.files.length ic,.slice sa m.said.length sc] 34) (.cells #[.int .i64 i.op,.int .i64 i.a,.int .i64 i.n,.string i.text] 107) (.cells #[.int .i64 f.code,.int .i64 f.fn,.int .i64 f.at',.slice x L y,.slice z M B] 91);rw[q];refine(Rm i.a Y).mono ?_;rintro e F ⟨O,U,P,t,rfl,d,a⟩;have p:Hid (1<=i.a/\i.a<=12->t=Cm i.a):=d;clear d;have u:=(a.block _ Ou).trans s;have l:=(a.block _ Ou).trans r;obtain⟨X,-⟩:=Aa u 6 _ rfl;obtain⟨V,-⟩:=Aa l 0 _ rfl;obtain⟨W,-⟩:=Aa l 1 _ rfl;have j:Hid (OH w F):=b.trans (a.mono b.size);clear b a s r E q u l);go_quiet (fail);have p:=p.out;go_wp2_with fail;go_ret2;refine⟨_,_,rfl,⟨fun h=>by simp at h,fun h=>absurd h.1 h8⟩,fun h=>by simp at h,Aj _ j.out⟩
theorem Gl {A:Nat} {w:World} {cs:List (List Af)} {a:Option Addr} {cap:Nat} (h:Bq A w (.slice a cs.length cap) cs) (j:Nat) (hj:j < cs.length):∃ g p,a=some (OI g 0)/\g < w.heap.size/\w.cell? (OI g j)=some (.slice p cs[j].length cs[j].length)/\Al w.heap.size w (.slice p cs[j].length cs[j].length) cs[j]:=by
 obtain⟨l,b,e,k⟩:=h;injection e with e1 e2 e3;subst e1;obtain⟨g,p,c,m,d,f,i⟩:=k j hj;exact⟨g,p,c,d,f,i.code⟩
theorem Qam (m:Ds) (ca aa oa fa ia sa:Option Addr) (cc ac oc fc ic sc:Nat) (A:Nat) (w:World) (hF:Cn A w (.slice fa m.frames.length fc) m.frames) (hC:Bq A w (.slice ca m.codes.length cc) m.codes) (hl:m.frames.length<=1048576) (_hl2:m.codes.length<=1048576) (k:Nat) (hk:k+1 < m.frames.length) (j:Nat) (hj:j < m.codes.length) (hcd:(m.frames[k]'Ou).code=(j:Int)) (c:List Af) (hc:m.codes[j]=c) (_hcl:c.length<=60) (i:Az) (hi:i.op=9->0<=i.a/\i.a < (c.length:Int)):Calls Tryz.prog 87 #[.agg #[.slice ca m.codes.length cc,.slice aa m.args.length ac,.slice oa m.outs.length oc,.slice fa m.frames.length fc,.int .i64 m.steps,.int .i64 m.looks,.int .i64 m.kind,.string m.name,.string m.hold,.bool m.over,.int .i64 m.fin,.string m.text,.slice ia m.files.length ic,.slice sa m.said.length sc],.int .i64 (k:Int),Aw i] w (fun e w'=>if m.frames[k+1].code=(j:Int) then J1 c i 9 m.frames[k+1].fn w e w' else J1 c i 8 4 w e w'):=by
 obtain⟨n,HN⟩:∃ n,Hid (m.frames.length=n):=⟨_,(rfl:m.frames.length=_)⟩;obtain⟨nc,H⟩:∃ n,Hid (m.codes.length=n):=⟨_,(rfl:m.codes.length=_)⟩;obtain⟨g,ao,ap,aq,ar,eg,v,⟨Y,e1,e2,Z,e4⟩,-,-⟩:=F9 hF k Ou;obtain⟨g',M,N,O,P,l,-,⟨Q,R,S,x,y⟩,-,-⟩:=F9 hF (k+1) hk;subst eg;injection l with l;injection l with l;subst l;obtain⟨gc,pc,ec,J,T,o⟩:=Gl hC j hj;subst ec;rw[hc]at T o;obtain⟨f,hf⟩:∃ f,m.frames[k]'Ou=f:=⟨_,rfl⟩;obtain⟨a,u⟩:∃ f,m.frames[k+1]=f:=⟨_,rfl⟩;rw[hf]at Y e1 e2 Z e4 hcd;rw[u]at Q R S x y |-
 rw[hcd]at Y;rw[HN.out]at hk hl |-
 rw[H.out]at hj |-
 obtain⟨n1,D⟩:∃ n,Hid (f.slots.length=n):=⟨_,(rfl:f.slots.length=_)⟩;obtain⟨n2,E⟩:∃ n,Hid (f.stack.length=n):=⟨_,(rfl:f.stack.length=_)⟩;obtain⟨n3,F⟩:∃ n,Hid (a.slots.length=n):=⟨_,(rfl:a.slots.length=_)⟩;obtain⟨n4,G⟩:∃ n,Hid (a.stack.length=n):=⟨_,(rfl:a.stack.length=_)⟩;rw[D.out]at Z;rw[E.out]at e4;rw[F.out]at x;rw[G.out]at y;have L:¬ (k:Int)=(n:Int) - 1:=Ou
 have ad:((k:Int) == (n:Int) - 1)=false:=by simpa using L
 have ai:(k:Int)+1 < (n:Int):=Ou
 have ab:(k:Int) < (n:Int):=Ou
 have ah:(j:Int) < (nc:Int):=Ou
 have U0:∀ o1 o2 o3,(((w.alloc o1).alloc o2).alloc o3).cell? (OI g ((k+1) * 5))=some (.int .i64 a.code):=fun o1 o2 o3=>((Gy w o1 o2 o3).cell (p:=(OI g ((k+1) * 5))) v).trans Q
 have U1:∀ o1 o2 o3,(((w.alloc o1).alloc o2).alloc o3).cell? (OI g ((k+1) * 5+1))=some (.int .i64 a.fn):=fun o1 o2 o3=>((Gy w o1 o2 o3).cell (p:=(OI g ((k+1) * 5+1))) v).trans R
 have U2:∀ o1 o2 o3,(((w.alloc o1).alloc o2).alloc o3).cell? (OI g ((k+1) * 5+2))=some (.int .i64 a.at'):=fun o1 o2 o3=>((Gy w o1 o2 o3).cell (p:=(OI g ((k+1) * 5+2))) v).trans S
 have U3:∀ o1 o2 o3,(((w.alloc o1).alloc o2).alloc o3).cell? (OI g ((k+1) * 5+3))=some (.slice M n3 N):=fun o1 o2 o3=>((Gy w o1 o2 o3).cell (p:=(OI g ((k+1) * 5+3))) v).trans x
 have U4:∀ o1 o2 o3,(((w.alloc o1).alloc o2).alloc o3).cell? (OI g ((k+1) * 5+4))=some (.slice O n4 P):=fun o1 o2 o3=>((Gy w o1 o2 o3).cell (p:=(OI g ((k+1) * 5+4))) v).trans y
 have z:∀ o1 o2 o3 o4,OH w ((((w.alloc o1).alloc o2).alloc o3).alloc o4):=fun o1 o2 o3 o4=>(Gy w o1 o2 o3).alloc OD o4
 have d:Hid (∀ o1 o2 o3 o4,OH w ((((w.alloc o1).alloc o2).alloc o3).alloc o4)):=z;have V0:∀ o1 o2 o3 o4,((((w.alloc o1).alloc o2).alloc o3).alloc o4).cell? (OI gc j)=some (.slice pc c.length c.length):=fun o1 o2 o3 o4=>((z o1 o2 o3 o4).cell (p:=(OI gc j)) J).trans T
 clear hf u hF hC hcd hc Q R S x y T z;unfold Aw;have U:Hid (i.op=9->0<=i.a/\i.a < (c.length:Int)):=hi;clear hi;by_cases hsame:a.code=(j:Int)
 ·simp only[if_pos hsame];simp only[hsame]at U0;clear hsame;by_cases h9:i.op=9/\i.a=a.fn
  ·obtain⟨b,r⟩:∃ b:Nat,i.a=(b:Int):=⟨i.a.toNat,by have:=U.out h9.1;omega⟩;have t:b < c.length:=(by have:=U.out h9.1;omega);obtain⟨gf,W,pa,an,al,am,ev,K,d0,d1,X,d3,d4,-,-⟩:=o.fn b t;injection ev with ev1 ev2 ev3;subst ev1;obtain⟨nl,q⟩:∃ n,Hid (c.length=n):=⟨_,(rfl:c.length=_)⟩;rw[q.out]at t;simp only[q.out]at V0;have af:(b:Int) < (nl:Int):=Ou;have ak:(i.op != 9)=false:=(by simp[h9.1]);have ag:((b:Int) != (b:Int))=false:=OB;have C:Hid (i.op=9/\i.a=a.fn):=h9;have V:Hid (Dh c 9 a.fn=c[b].result):=by
    rw[Hid,Dh,if_pos rfl,<- h9.2,r,Int.toNat_natCast,List.getD_eq_getElem?_getD,List.getElem?_eq_getElem];rfl
   have s:a.fn=(b:Int):=(by rw[<- h9.2];exact r);simp only[s]at U1;rw[r];have D2:∀ o1 o2 o3 o4,((((w.alloc o1).alloc o2).alloc o3).alloc o4).cell? (OI gf (b * 5+2))=some (.int .i64 c[b].result):=fun o1 o2 o3 o4=>((d.out o1 o2 o3 o4).cell (p:=(OI gf (b * 5+2))) K).trans X
   generalize hres:c[b].result=res at D2 V;clear h9 o d0 d1 X d3 d4 hres ev2 ev3 s;have ae:Hid (i.a=(b:Int)):=r;clear r;go_enter Tryz.func87,Tryz.ntmps87;go_wp2_with fail;go_quiet (fail);go_wp2_with fail;go_ret2;refine⟨_,_,rfl,⟨fun _=>C.out,fun _=>rfl⟩,fun _=>V.out.symm,Aj _ ?_⟩;exact d.out _ _ _ _
  ·have hx:(i.op != 9)=true\/((i.op != 9)=false/\(i.a != a.fn)=true):=by
    by_cases h:i.op=9
    ·right;exact⟨by simp[h],by simp;intro e;exact h9 ⟨h,e⟩⟩
    ·left;simpa using h
   have C:Hid (¬ (i.op=9/\i.a=a.fn)):=h9;clear h9 o;rcases hx with h1|⟨h1,h2⟩
   all_goals
    go_enter Tryz.func87,Tryz.ntmps87;go_wp2_with fail;go_ret2;refine⟨_,_,rfl,⟨fun h=>by simp at h,fun h=>absurd h C.out⟩,fun h=>by simp at h, ?_⟩;exact d.out _ _ _ _
 ·simp only[if_neg hsame];have aj:(a.code != (j:Int))=true:=by simpa using hsame
  clear o;by_cases h8:i.op=8
  ·have I:(i.op == 8)=true:=(by simp[h8]);have B:Hid (i.op=8):=h8;clear h8;go_enter Tryz.func87,Tryz.ntmps87;go_wp2_with fail;go_quiet (fail);go_wp2_with fail;go_ret2;refine⟨_,_,rfl,by simp[B.out],fun _=>by simp[Dh,Cm],Aj _ ?_⟩;exact d.out _ _ _ _
  ·have I:(i.op == 8)=false:=(by simp[h8]);have B:Hid (¬ i.op=8):=h8;clear h8;go_enter Tryz.func87,Tryz.ntmps87;go_wp2_with fail;go_quiet (fail);go_wp2_with fail;go_ret2;refine⟨_,_,rfl,⟨fun h=>by simp at h,fun h=>absurd h.1 B.out⟩,fun h=>by simp at h,Aj _ ?_⟩;exact d.out _ _ _ _
theorem Qfn (c:List Af) (fn:Af) (i:Az) (s0 t0:List Int) (h8:i.op=8) (h:(Ag c fn i s0 t0).2.2=true):(Ag c fn i s0 t0).2.1=[Cm i.a]:=by
 have e:Ag c fn i s0 t0=if t0.length < (Bj i.a).length then (0,[],false) else ((Bj i.a).length,[Da i.a (t0.drop (t0.length - (Bj i.a).length))],decide (Da i.a (t0.drop (t0.length - (Bj i.a).length))≠0)):=by
  unfold Ag;rw[if_neg Ou,if_neg Ou,if_neg Ou,if_neg Ou,if_neg Ou,if_neg Ou,if_pos h8]
 rw[e]at h |-
 by_cases hl:t0.length < (Bj i.a).length
 ·rw[if_pos hl]at h;simp at h
 ·rw[if_neg hl]at h |-
  have a:Da i.a (t0.drop (t0.length - (Bj i.a).length))≠0:=by simpa using h
  show [Da i.a (t0.drop (t0.length - (Bj i.a).length))]=[Cm i.a]
  unfold Da at a |-
  by_cases hf:Fo (Bj i.a) (t0.drop (t0.length - (Bj i.a).length))=true
  ·rw[if_pos hf]
  ·rw[if_neg hf]at a;exact absurd rfl a
theorem Qfo (c:List Af) (fn:Af) (i:Az) (s0 t0:List Int) (h9:i.op=9) (hr:(c.getD i.a.toNat A6).result≠0) (h:(Ag c fn i s0 t0).2.2=true):(Ag c fn i s0 t0).2.1=[(c.getD i.a.toNat A6).result]:=by
  have e:Ag c fn i s0 t0=(if t0.length < (c.getD i.a.toNat A6).params.length then (0,[],false)
     else if t0.drop (t0.length - (c.getD i.a.toNat A6).params.length)=(c.getD i.a.toNat A6).params then
       ((c.getD i.a.toNat A6).params.length,if (c.getD i.a.toNat A6).result=0 then [] else [(c.getD i.a.toNat A6).result],true)
     else (0,[],false)):=by
    unfold Ag;rw[if_neg Ou,if_neg Ou,if_neg Ou,if_neg Ou,if_neg Ou,if_neg Ou,if_neg Ou,if_pos h9]
  rw[e]at h |-
  split at h
  · simp at h
  · rename_i h1
    split at h
    · rename_i h2
      rw[if_neg h1,if_pos h2];show (if (c.getD i.a.toNat A6).result=0 then [] else [(c.getD i.a.toNat A6).result])=_
      rw[if_neg hr]
    · simp at h
theorem V6 {c:List Af} {fn:Af} {X:List Am} {v:Nat} {s0 t0 s t:List Int} {op a:Int} (hX:Cr c fn X) (hv:v+1 < fn.ins.length) (h0:Ai X v = .known s0 t0) (h1:Ai X (v+1) = .known s t) (ho:(fn.ins.getD v C3).op=op) (ha:(fn.ins.getD v C3).a=a) (h89:op=8\/op=9) (hw:Dh c op a≠0) :
  ∃ k,t=k++[Dh c op a]:=by
 have g:=hX.2.stab v (by show v < fn.ins.length;omega) (by rw[h0];simp) (v+1) (by
  show v+1 ∈ A5 (fn.ins.getD v C3) v
  unfold A5
  rw[ho]
  rcases h89 with rfl|rfl <;> simp) (by show v+1 < fn.ins.length;omega)
 rw[h0,h1]at g;have b:Dl (Bi c fn (fn.ins.getD v C3) v s0 t0) (.known s t):=g;unfold Bi at b;split at b
 ·exact absurd b (by simp[Dl])
 ·rename_i hg
  split at b
  ·exact absurd b (by simp[Dl])
  ·split at b
   ·exact absurd b (by simp[Dl])
   ·have i:=b.1;have f:(Ag c fn (fn.ins.getD v C3) s0 t0).2.2=true:=by
     cases h:(Ag c fn (fn.ins.getD v C3) s0 t0).2.2
     ·exact absurd (Or.inl h) hg
     ·rfl
    refine⟨t0.take (t0.length - (Ag c fn (fn.ins.getD v C3) s0 t0).1), ?_⟩;rw[<- i];congr 1;rcases h89 with rfl|rfl
    ·have d:Dh c 8 a=Cm a:=(by unfold Dh;rw[if_neg Ou]);rw[d,Qfn c fn _ s0 t0 ho f,ha]
    ·have d:Dh c 9 a=(c.getD a.toNat A6).result:=(by unfold Dh;rw[if_pos rfl]);rw[d]at hw |-
     rw[Qfo c fn _ s0 t0 ho (by rw[ha];exact hw) f,ha]
end Go.Proofs.YtahibkjkpmdhgaaGreatDoor
