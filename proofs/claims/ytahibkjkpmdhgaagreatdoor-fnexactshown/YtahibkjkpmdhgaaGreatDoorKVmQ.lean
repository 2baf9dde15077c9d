import Derived.Test.YtahibkjkpmdhgaaGreatDoorKVmHa
set_option maxRecDepth 100000
set_option maxHeartbeats 4000000
namespace Go.Proofs.YtahibkjkpmdhgaaGreatDoor
open Go.RowKit
theorem Qc2 (s:ByteArray) (w:World) :
  Calls Tryz.prog 63 #[.string s] w fun e w'=>e = .returned (.bool (decide (3000 < (s.size:Int))))/\w=w':=by
 by_cases h1:(3000:Int) < (s.size:Int);all_goals
  go_enter Tryz.func63,Tryz.ntmps63;go_wp2;all_goals go_ret
  all_goals exact⟨Ap (by simp[h1]),rfl⟩
theorem Qea (l:List ByteArray) (a:Option Addr) (cap:Nat) (hl:l.length<=1048576) (w:World) (hL:Dw w (.slice a l.length cap) l) :
  Calls Tryz.prog 91 #[.slice a l.length cap,.func (Fn.func 63) #[] #[]] w fun e w'=>(∃ k:Int,e = .returned (.int .i64 k)/\(decide (0<=k)) = !(C6 l))/\w=w':=by
 have r:Hid (Dw w (.slice a l.length cap) l):=hL;clear hL;go_enter Tryz.func91,Tryz.ntmps91;go_wp2_with fail;go_loopw [8] (fun t wr => ∃ i:Nat,i<=l.length/\t = .int .i64 (i:Int)/\w=wr/\∀ j (hj:j < l.length),j < i->(l[j].size:Int)<=3000) (fun t _=>l.length - (intOf t).toNat);case atStart=>exact⟨0,by omega,rfl,rfl,fun j hj h=>Ou⟩
 case round =>
  obtain⟨i,C,rfl,rfl,m⟩:=hrel;have c:Hid (∀ j (hj:j < l.length),j < i->(l[j].size:Int)<=3000):=m;clear m;by_cases hlt:i < l.length
  ·have f:(i:Int) < (l.length:Int):=Ou;obtain⟨g,o,rfl,s⟩:∃ g o,a=some (OI g o)/\w.cell? (OI g (o+i))=some (.string l[i]):=by
    obtain⟨A,B,e,z⟩:=r.out;injection e with e1;subst e1;obtain⟨g,o,u,_,d⟩:=z i hlt;exact⟨g,o,u,d⟩
   obtain⟨x,q⟩:∃ x,Hid (l[i]=x):=⟨_,(rfl:l[i]=_)⟩;rw[q.out]at s;cases hb:decide (3000 < (x.size:Int)) with
   | true =>
    have b:Hid (decide (3000 < (x.size:Int))=true):=hb;clear hb;have p:Hid ((decide ((0:Int)<=(i:Int))) = !(C6 l)):=by
     have d:C6 l=false:=by
      cases ht:C6 l with
      | false=>rfl
      | true =>
       have v:=Mz.1 ht i hlt;rw[q.out]at v;have y:3000 < (x.size:Int):=(by simpa using b.out);omega
     rw[Hid,d];simp
    go_wp2_with (go_at_call 63;refine(Qc2 _ _).mono ?_;rintro e w' ⟨rfl,rfl⟩;rw[b.out]);go_ret;exact⟨⟨_,rfl,p.out⟩,rfl⟩
   | false =>
    have b:Hid (decide (3000 < (x.size:Int))=false):=hb;clear hb;have n:Hid (∀ j (hj:j < l.length),j < i+1->(l[j].size:Int)<=3000):=fun j hj h=>by
     by_cases e:j=i
     ·subst e;rw[q.out];have y:¬ 3000 < (x.size:Int):=(by simpa using b.out);omega
     ·exact c.out j hj Ou
    go_wp2_with (go_at_call 63;refine(Qc2 _ _).mono ?_;rintro e w' ⟨rfl,rfl⟩;rw[b.out]);go_roundw;case rel=>exact⟨i+1,by omega,by go_num,by first|rfl|trivial,n.out⟩
    case measure=>simp[intOf];omega
  ·have f:¬ (i:Int) < (l.length:Int):=Ou;have p:Hid ((decide ((0:Int) <= -1)) = !(C6 l)):=by
    have d:C6 l=true:=Mz.2 (fun j hj=>c.out j hj Ou);rw[Hid,d];rfl
   go_wp2_with fail;go_ret;exact⟨⟨_,rfl,p.out⟩,rfl⟩
theorem Qd9 (l:List ByteArray) (a:Option Addr) (cap:Nat) (hl:l.length<=1048576) (w:World) (hL:Dw w (.slice a l.length cap) l) :
  Calls Tryz.prog 62 #[.slice a l.length cap,.func (Fn.func 63) #[] #[]] w fun e w'=>e = .returned (.bool (!(C6 l)))/\w=w':=by
 have b:Hid (Calls Tryz.prog 91 #[.slice a l.length cap,.func (Fn.func 63) #[] #[]] w fun e w'=>(∃ k:Int,e = .returned (.int .i64 k)/\(decide (0<=k)) = !(C6 l))/\w=w'):=Qea l a cap hl w hL;clear hL;obtain⟨r,d⟩:∃ r,Hid ((!(C6 l))=r):=⟨_,(rfl:(!(C6 l))=_)⟩;rw[d.out]at b |-
 go_enter Tryz.func62,Tryz.ntmps62;go_wp2_with (go_at_call 91;refine b.out.mono ?_;rintro e w' ⟨⟨k,rfl,c⟩,rfl⟩);all_goals go_ret
 all_goals exact⟨Ap (by first|exact c|(simp_all;done)|(rw[<- c];simp;omega)),rfl⟩
theorem Sy (l:List ByteArray) (a:Option Addr) (cap:Nat) (hl:l.length<=1048576) (w:World) (hL:Dw w (.slice a l.length cap) l) :
  Calls Tryz.prog 33 #[.slice a l.length cap] w fun e w'=>e = .returned (.bool (C6 l))/\w=w':=by
 have b:Hid (Calls Tryz.prog 62 #[.slice a l.length cap,.func (Fn.func 63) #[] #[]] w fun e w'=>e = .returned (.bool (!(C6 l)))/\w=w'):=Qd9 l a cap hl w hL;clear hL;obtain⟨r,c⟩:∃ r,Hid (C6 l=r):=⟨_,(rfl:C6 l=_)⟩;rw[c.out]at b |-
 go_enter Tryz.func33,Tryz.ntmps33;go_wp2_with (go_at_call 62;refine b.out.mono ?_;rintro e w' ⟨rfl,rfl⟩);go_ret;exact⟨Ap OB,rfl⟩
theorem Qcx (m:Ds) (ca aa oa fa ia sa:Option Addr) (cc ac oc fc ic sc:Nat) (hs:H4 m) (w:World):Calls Tryz.prog 34 #[.agg #[.slice ca m.codes.length cc,.slice aa m.args.length ac,.slice oa m.outs.length oc,.slice fa m.frames.length fc,.int .i64 m.steps,.int .i64 m.looks,.int .i64 m.kind,.string m.name,.string m.hold,.bool m.over,.int .i64 m.fin,.string m.text,.slice ia m.files.length ic,.slice sa m.said.length sc]] w (Eh (F2 m) w):=by
 have a:m.codes.length<=1048576:=hs.codes.1;have b:m.args.length<=1048576:=hs.args.1;have c:m.outs.length<=1048576:=hs.outs.1;have d:m.frames.length<=1048576:=hs.frames.1;have f:m.files.length<=1048576:=hs.files.1;have g:m.text.size<=1048576:=hs.text;clear hs;go_enter Tryz.func34,Tryz.ntmps34;go_wp2_with fail;all_goals (go_ret;refine⟨_,rfl, ?_,Ao w _⟩;unfold F2;grind)
def S5 (k:Int) (s:ByteArray):Bool:=if k=3 then C4 s else Do s
theorem Qfp (k:Int) (s:ByteArray) (hs:s.size<=1048576) (w:World) :
  Calls Tryz.prog 66 #[.int .i64 k,.string s] w fun e w'=>e = .returned (.bool (S5 k s))/\w=w':=by
 by_cases h3:k=3
 ·have a:S5 k s=C4 s:=by unfold S5;rw[if_pos h3]
  rw[a];have b:(k == 3)=true:=by simp[h3]
  clear h3 a;go_enter Tryz.func66,Tryz.ntmps66;go_wp2_with (go_at_call 93;refine(Qj s hs _).mono ?_;rintro e w' ⟨rfl,rfl⟩);go_ret;exact⟨rfl,rfl⟩
 ·have a:S5 k s=Do s:=by unfold S5;rw[if_neg h3]
  rw[a];have b:(k == 3)=false:=by simp[h3]
  clear h3 a;go_enter Tryz.func66,Tryz.ntmps66;go_wp2_with (go_at_call 90;refine(Sr s hs _).mono ?_;rintro e w' ⟨rfl,rfl⟩);go_ret;exact⟨rfl,rfl⟩
theorem Qcz (m:Ds) (ca aa oa fa ia sa:Option Addr) (cc ac oc fc ic sc:Nat) (hs:H4 m) (w:World):Calls Tryz.prog 36 #[.agg #[.slice ca m.codes.length cc,.slice aa m.args.length ac,.slice oa m.outs.length oc,.slice fa m.frames.length fc,.int .i64 m.steps,.int .i64 m.looks,.int .i64 m.kind,.string m.name,.string m.hold,.bool m.over,.int .i64 m.fin,.string m.text,.slice ia m.files.length ic,.slice sa m.said.length sc]] w (Eh (C7 m) w):=by
 have g:m.name.size<=1048576:=hs.name;have y:m.hold.size<=1048576:=hs.hold;clear hs;obtain⟨a,b⟩:∃ k,Hid (m.kind=k):=⟨_,(rfl:m.kind=_)⟩;obtain⟨P,f⟩:∃ P,Hid (C7 m ↔ P):=⟨_,Iff.rfl⟩;rw[show C7 m=P from propext f.out,b.out];rcases(by omega:a=0\/a=1\/a=2\/a=3\/a=4\/(a≠0/\a≠1/\a≠2/\a≠3/\a≠4)) with rfl|rfl|rfl|rfl|rfl|⟨j,l,n,o,p⟩
 case inr.inr.inr.inr.inr =>
  have s:(a == 0)=false:=by simp[j]
  have t:(a == 1)=false:=by simp[l]
  have u:(a == 2)=false:=by simp[n]
  have v:(a == 3)=false:=by simp[o]
  have x:(a == 4)=false:=by simp[p]
  have d:Hid (¬ P):=fun h=>by
   have g:=f.out.2 h;unfold C7 at g;have:=b.out;omega
  clear j l n o p;go_enter Tryz.func36,Tryz.ntmps36;go_wp2_with fail;go_ret;exact⟨false,rfl,⟨fun h=>by simp at h,fun h=>absurd h d.out⟩,Ao w _⟩
 all_goals
  obtain⟨i,c⟩:∃ i,Hid (S5 _ m.name=i):=⟨_,(rfl:S5 m.kind m.name=_)⟩;rw[b.out]at c;go_enter Tryz.func36,Tryz.ntmps36;go_wp2_with (first
   | (go_at_call 66;refine(Qfp _ m.name g _).mono ?_;rintro e w' ⟨rfl,rfl⟩;rw[c.out]))
  all_goals (go_ret;have q:=c.out;have r:=b.out;simp[S5]at q;refine⟨_,rfl, ?_,Ao w _⟩;rw[<- f.out];unfold C7;rw[r];grind)
def Gs (l:List ByteArray) (v:ByteArray):Bool:=l.any (fun d=>v.toList == d.toList)
theorem Qfu (l:List ByteArray) (v:ByteArray) (a:Option Addr) (cap:Nat) (hl:l.length<=1048576) (w:World) (hL:Dw w (.slice a l.length cap) l) :
  Calls Tryz.prog 92 #[.slice a l.length cap,.string v] w fun e w'=>(∃ k:Int,e = .returned (.int .i64 k)/\decide (0<=k)=Gs l v)/\w=w':=by
 have r:Hid (Dw w (.slice a l.length cap) l):=hL;clear hL;go_enter Tryz.func92,Tryz.ntmps92;go_wp2_with fail;go_loopw [8] (fun t wr => ∃ i:Nat,i<=l.length/\t = .int .i64 (i:Int)/\w=wr/\Hid (∀ j (b:j < l.length),j < i->(v.toList == l[j].toList)=false)) (fun t _=>l.length - (intOf t).toNat);case atStart=>exact⟨0,by omega,rfl,rfl,fun j b h=>Ou⟩
 case round =>
  obtain⟨i,C,rfl,rfl,c⟩:=hrel;by_cases hlt:i < l.length
  ·have m:(i:Int) < (l.length:Int):=Ou;obtain⟨g,o,rfl,s⟩:∃ g o,a=some (OI g o)/\w.cell? (OI g (o+i))=some (.string l[i]):=by
    obtain⟨A,B,e,y⟩:=r.out;injection e with e1;subst e1;obtain⟨g,o,u,_,f⟩:=y i hlt;exact⟨g,o,u,f⟩
   obtain⟨x,q⟩:∃ x,Hid (l[i]=x):=⟨_,(rfl:l[i]=_)⟩;rw[q.out]at s;cases hb:(v.toList == x.toList) with
   | true =>
    have p:Hid ((decide ((0:Int)<=(i:Int)))=Gs l v):=by
     have f:Gs l v=true:=by
      unfold Gs;rw[List.any_eq_true];exact⟨l[i],List.getElem_mem hlt,by rw[q.out];exact hb⟩
     rw[Hid,f];simp
    go_wp2_with fail;go_ret;exact⟨⟨_,rfl,p.out⟩,rfl⟩
   | false =>
    have n:Hid (∀ j (b:j < l.length),j < i+1->(v.toList == l[j].toList)=false):=fun j b h=>by
     by_cases e:j=i
     ·subst e;rw[q.out];exact hb
     ·exact c.out j b Ou
    go_wp2_with fail;go_roundw;case rel=>exact⟨i+1,by omega,by go_num,by first|rfl|trivial,n.out⟩
    case measure=>simp[intOf];omega
  ·have m:¬ (i:Int) < (l.length:Int):=Ou;have p:Hid ((decide ((0:Int) <= -1))=Gs l v):=by
    have f:Gs l v=false:=by
     unfold Gs;rw[List.any_eq_false];intro d z;obtain⟨j,b,rfl⟩:=List.getElem_of_mem z;rw[c.out j b Ou];simp
    rw[Hid,f];rfl
   go_wp2_with fail;go_ret;exact⟨⟨_,rfl,p.out⟩,rfl⟩
theorem Qft (l:List ByteArray) (v:ByteArray) (a:Option Addr) (cap:Nat) (hl:l.length<=1048576) (w:World) (hL:Dw w (.slice a l.length cap) l) :
  Calls Tryz.prog 64 #[.slice a l.length cap,.string v] w fun e w'=>e = .returned (.bool (Gs l v))/\w=w':=by
 have b:Hid (Calls Tryz.prog 92 #[.slice a l.length cap,.string v] w fun e w'=>(∃ k:Int,e = .returned (.int .i64 k)/\decide (0<=k)=Gs l v)/\w=w'):=Qfu l v a cap hl w hL;clear hL;obtain⟨r,d⟩:∃ r,Hid (Gs l v=r):=⟨_,(rfl:Gs l v=_)⟩;rw[d.out]at b |-
 go_enter Tryz.func64,Tryz.ntmps64;go_wp2_with (go_at_call 92;refine b.out.mono ?_;rintro e w' ⟨⟨k,rfl,c⟩,rfl⟩);all_goals go_ret
 all_goals exact⟨Ap (by first|exact c|(simp_all;done)|(rw[<- c];simp;omega)),rfl⟩
def G4 (m:Ds):Prop :=
 (∀ f ∈ m.files,Gs m.outs f.name=true)/\m.codes.length<=40/\m.args.length=m.codes.length/\C6 m.args=true/\Gb ⟨#[]⟩ m.outs=true/\(0<=m.looks/\m.looks<=100)/\m.fin=0/\m.text.toList=[]
def Vs (m:Ds):Prop :=
 m.codes.length<=40/\m.args.length=m.codes.length/\C6 m.args=true/\Gb ⟨#[]⟩ m.outs=true/\(0<=m.looks/\m.looks<=100)/\m.fin=0/\m.text.toList=[]
theorem Qfq {m:Ds} {i:Nat} (hi:i < m.files.length) (h:Gs m.outs m.files[i].name=false):¬ G4 m:=fun hp=>by
 have:=hp.1 _ (List.getElem_mem hi)
 rw[h]at this
 cases this
theorem Qee {m:Ds} (h:∀ i (a:i < m.files.length),Gs m.outs m.files[i].name=true):G4 m ↔ Vs m :=
 ⟨fun hp=>hp.2,fun hr=>⟨fun f hf=>by obtain⟨i,a,rfl⟩:=List.getElem_of_mem hf;exact h i a,hr⟩⟩
theorem Qgj {w w':World} {g:Nat} {cur:Array Value} {t:TypeId} (h:w.heap[g]? = some (.cells cur t)) (hb:OH w w'):w'.heap[g]? = some (.cells cur t) :=
 (hb.block g (Array.getElem?_eq_some_iff.1 h).1).trans h
theorem Qcy (m:Ds) (ca aa oa fa ia sa:Option Addr) (cc ac oc fc ic sc:Nat) (hs:H4 m) (w:World) (G:Dw w (.slice aa m.args.length ac) m.args) (hO:Dw w (.slice oa m.outs.length oc) m.outs) (hF:Gc w (.slice ia m.files.length ic) m.files):Calls Tryz.prog 35 #[.agg #[.slice ca m.codes.length cc,.slice aa m.args.length ac,.slice oa m.outs.length oc,.slice fa m.frames.length fc,.int .i64 m.steps,.int .i64 m.looks,.int .i64 m.kind,.string m.name,.string m.hold,.bool m.over,.int .i64 m.fin,.string m.text,.slice ia m.files.length ic,.slice sa m.said.length sc]] w (Eh (G4 m) w):=by
 have V:Hid (∀ U,OH w U->Calls Tryz.prog 33 #[.slice aa m.args.length ac] U fun e w'=>e = .returned (.bool (C6 m.args))/\U=w'):=fun U hU=>Sy m.args aa ac hs.args.1 U (G.below hU)
 have J:Hid (∀ U v,OH w U->Calls Tryz.prog 64 #[.slice oa m.outs.length oc,.string v] U fun e w'=>e = .returned (.bool (Gs m.outs v))/\U=w'):=fun U v hU=>Qft m.outs v oa oc hs.outs.1 U (hO.below hU)
 have W:Hid (∀ U,OH w U->Calls Tryz.prog 65 #[.agg #[.string ⟨#[]⟩,.slice oa m.outs.length oc]] U fun e w'=>e = .returned (.bool (Gb ⟨#[]⟩ m.outs))/\OH U w'):=fun U hU=>Qb8 ⟨#[]⟩ m.outs _ U Ov hs.outs.1 hs.outs.2 (hO.below hU)
 have I:Hid (∀ U,OH w U->Gc U (.slice ia m.files.length ic) m.files):=fun U hU=>hF.below hU
 have h1:m.codes.length<=1048576:=hs.codes.1;have h2:m.args.length<=1048576:=hs.args.1;have h3:m.outs.length<=1048576:=hs.outs.1;have h5:m.files.length<=1048576:=hs.files.1;have h6:m.text.size<=1048576:=hs.text;clear hs G hO hF;obtain⟨P,K⟩:∃ P,Hid (G4 m ↔ P):=⟨_,Iff.rfl⟩;rw[show G4 m=P from propext K.out];obtain⟨s,q⟩:∃ n,Hid (m.files.length=n):=⟨_,(rfl:m.files.length=_)⟩;rw[q.out]at h5 I |-
 go_enter Tryz.func35,Tryz.ntmps35;go_wp2_with fail;obtain⟨Y,D⟩:∃ Y,w.alloc (.cells #[.slice ca m.codes.length cc,.slice aa m.args.length ac,.slice oa m.outs.length oc,.slice fa m.frames.length fc,.int .i64 m.steps,.int .i64 m.looks,.int .i64 m.kind,.string m.name,.string m.hold,.bool m.over,.int .i64 m.fin,.string m.text,.slice ia s ic,.slice sa m.said.length sc] 34)=Y:=⟨_,rfl⟩;have HY:Hid (Y.heap[w.heap.size]? = some (.cells #[.slice ca m.codes.length cc,.slice aa m.args.length ac,.slice oa m.outs.length oc,.slice fa m.frames.length fc,.int .i64 m.steps,.int .i64 m.looks,.int .i64 m.kind,.string m.name,.string m.hold,.bool m.over,.int .i64 m.fin,.string m.text,.slice ia s ic,.slice sa m.said.length sc] 34)):=by rw[Hid,<- D];exact Ae w _
 have z:Hid (OH w Y):=by rw[Hid,<- D];exact Ao w _
 have ab:Y.heap.size=w.heap.size+1:=by rw[<- D];exact World.size_alloc _ _
 rw[D];clear D;go_loopw [8] (fun t wr => ∃ i:Nat,i<=s/\t = .int .i64 (i:Int)/\OH Y wr/\Hid (∀ k (_:k < i) (h:k < m.files.length),Gs m.outs m.files[k].name=true)) (fun t _=>s - (intOf t).toNat);case atStart=>exact⟨0,by omega,rfl,Below.refl _ _,fun k h=>Ou⟩
 case round =>
  obtain⟨i,hi,rfl,j,Q⟩:=hrel;have O:=j.size;have b:OH w wr:=z.out.trans (j.mono z.out.size);have c:=(j.block _ Ou).trans HY.out;obtain⟨S,-⟩:=Aa c 2 _ rfl;by_cases hlt:i < s
  ·have F:(i:Int) < (s:Int):=Ou;have E:i < m.files.length:=(by rw[q.out];exact hlt);obtain⟨g,o,rfl,hg,d0,d1⟩:∃ g o,ia=some (OI g o)/\g < wr.heap.size/\wr.cell? (OI g (o+i * 2))=some (.string m.files[i].name)/\wr.cell? (OI g (o+i * 2+1))=some (.string m.files[i].text):=by
    obtain⟨a',cp,e,hc⟩:=I.out wr b;injection e with e1;subst e1;exact hc i E
   obtain⟨x,M⟩:∃ x,Hid (m.files[i].name=x):=⟨_,(rfl:m.files[i].name=_)⟩;obtain⟨y,N⟩:∃ x,Hid (m.files[i].text=x):=⟨_,(rfl:m.files[i].text=_)⟩;rw[M.out]at d0;rw[N.out]at d1;obtain⟨Z,R⟩:∃ Z,wr.alloc (.cells #[.string x,.string y] 55)=Z:=⟨_,rfl⟩;have f:OH wr Z:=(by rw[<- R];exact Ao wr _);have T:Z.heap[wr.heap.size]? = some (.cells #[.string x,.string y] 55):=(by rw[<- R];exact Ae wr _);obtain⟨q0,-⟩:=Aa T 0 _ rfl;have af:Z.cell? (OK w 2)=some (.slice oa m.outs.length oc):=(f.cell (p:=(OK w 2)) (by show w.heap.size < _;omega)).trans S;have l:Hid (OH w Z):=b.trans (f.mono b.size);have A:Hid (OH Y Z):=j.trans (f.mono O);clear c S T f;cases hb:Gs m.outs x with
   | true =>
    have u:Hid (Gs m.outs x=true):=hb;clear hb;go_wp2_with (first|(go_at_call 64;refine(J.out _ x l.out).mono ?_;rintro e w' ⟨rfl,rfl⟩;rw[u.out]));go_roundw;case rel =>
     refine⟨i+1,by omega,by go_num,A.out,fun k hk h => ?_⟩;by_cases e:k=i
     ·subst e;rw[M.out];exact u.out
     ·exact Q.out k Ou h
    case measure=>simp[intOf];omega
   | false =>
    have u:Hid (Gs m.outs x=false):=hb;clear hb;go_wp2_with (first|(go_at_call 64;refine(J.out _ x l.out).mono ?_;rintro e w' ⟨rfl,rfl⟩;rw[u.out]));go_ret;refine⟨false,rfl,⟨fun h=>by simp at h,fun h => ?_⟩,l.out⟩;exact absurd (K.out.2 h) (Qfq E (by rw[M.out];exact u.out))
  ·have F:¬ (i:Int) < (s:Int):=Ou;have L:Hid (Vs m ↔ P):=(Qee (fun k h=>Q.out k (by have:=q.out;omega) h)).symm.trans K.out;obtain⟨m0,-⟩:=Aa c 0 _ rfl;obtain⟨m1,-⟩:=Aa c 1 _ rfl;obtain⟨m5,-⟩:=Aa c 5 _ rfl;obtain⟨ad,-⟩:=Aa c 10 _ rfl;obtain⟨ae,-⟩:=Aa c 11 _ rfl;have a:Hid (OH w wr):=b;have X:Hid (wr.heap[w.heap.size]? = _):=c;clear c b J I;cases hta:C6 m.args <;> cases hjb:Gb ⟨#[]⟩ m.outs
   all_goals
    have C:Hid (C6 m.args=_):=hta;have B:Hid (Gb ⟨#[]⟩ m.outs=_):=hjb;clear hta hjb;go_wp2_with (first
     | (go_at_call 33;refine(V.out _ a.out).mono ?_;rintro e w' ⟨rfl,rfl⟩;rw[C.out])
     | (go_at_call 65;refine(W.out _ a.out).mono ?_;rintro e w4 ⟨rfl,r⟩;rw[B.out];have d:=Qgj X.out r;obtain⟨n5,-⟩:=Aa d 5 _ rfl;obtain⟨ag,-⟩:=Aa d 10 _ rfl;obtain⟨ah,-⟩:=Aa d 11 _ rfl;have H:Hid (OH w w4):=a.out.trans (r.mono a.out.size);clear r d))
    all_goals
     go_ret;have G:=C.out;have hJ:=B.out;refine⟨_,rfl, ?_,by first|exact a.out|exact H.out⟩;rw[<- L.out];unfold Vs;rw[G,hJ];grind
end Go.Proofs.YtahibkjkpmdhgaaGreatDoor
