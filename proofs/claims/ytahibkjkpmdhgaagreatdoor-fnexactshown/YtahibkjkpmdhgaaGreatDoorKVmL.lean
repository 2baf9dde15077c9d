import Derived.Test.YtahibkjkpmdhgaaGreatDoorKVmK
set_option maxRecDepth 100000
set_option maxHeartbeats 8000000
namespace Go.Proofs.YtahibkjkpmdhgaaGreatDoor
open Go.RowKit
def Qah (m:Ds):Prop:=(∀ f ∈ m.files,∃ o ∈ m.outs,o.toList=f.name.toList)/\(∀ c ∈ m.codes,Bd c)/\If m/\Fy m
theorem Qc5 {m:Ds} (h:Qah m):1<=m.codes.length:=by
 obtain⟨_,_,⟨d,_,_,c⟩,_⟩:=h;obtain⟨_,a,b,_⟩:=c 0 Ou;omega
theorem Qal {m:Ds} (h:C7 m):m.kind=0\/(1<=m.kind/\m.kind<=4):=by
 rcases h with⟨h,_⟩|⟨a,b,_⟩
 ·exact .inl h
 ·exact .inr ⟨a,b⟩
theorem Qgm : ∀ a b v c d e f g:Bool,(a=true/\b=true/\(v=true\/(c=true/\d=false/\e=true/\f=false/\g=false)))\/(a=false\/(a=true/\b=false)\/(a=true/\b=true/\v=false/\c=false)\/(a=true/\b=true/\v=false/\c=true/\d=true)\/(a=true/\b=true/\v=false/\c=true/\d=false/\e=false)\/(a=true/\b=true/\v=false/\c=true/\d=false/\e=true/\f=true)\/(a=true/\b=true/\v=false/\c=true/\d=false/\e=true/\f=false/\g=true)):=by
 intro a b v c d e f g;cases a <;> cases b <;> cases v <;> cases c <;> cases d <;> cases e <;> cases f <;> cases g <;> simp
theorem Qak (m:Ds) (ca aa oa fa ia sa:Option Addr) (cc ac oc fc ic sc:Nat) (A:Nat) (hs:H4 m) (w:World) (hM:Gd A w m ca aa oa fa ia sa cc ac oc fc ic sc):Calls Tryz.prog 6 #[.agg #[.slice ca m.codes.length cc,.slice aa m.args.length ac,.slice oa m.outs.length oc,.slice fa m.frames.length fc,.int .i64 m.steps,.int .i64 m.looks,.int .i64 m.kind,.string m.name,.string m.hold,.bool m.over,.int .i64 m.fin,.string m.text,.slice ia m.files.length ic,.slice sa m.said.length sc]] w (Eh (Gk m) w):=by
 have ai:Hid (∀ U,OH w U->Calls Tryz.prog 20 #[.slice ia m.files.length ic,.int .i64 20] U fun e w'=>e = .returned (.bool (G5 m.files 20))/\OH U w'):=fun U hU=>Qv m.files 20 _ U Ou hs.files.1 hs.files.2 ((Jw hM.files rfl).below hU)
 have aw:Hid (∀ U,OH w U->Calls Tryz.prog 21 #[.slice sa m.said.length sc,.int .i64 50] U (Eh (Dy m.said 50) U)):=fun U hU=>Wa m.said 50 _ U hs.said Ou ((Gm hM.said rfl).below hU)
 have au:Hid (∀ U,OH w U->Calls Tryz.prog 21 #[.slice aa m.args.length ac,.int .i64 40] U (Eh (Dy m.args 40) U)):=fun U hU=>Wa m.args 40 _ U hs.args Ou ((Gm hM.args rfl).below hU)
 have an:Hid (∀ U,Calls Tryz.prog 23 #[.agg #[.slice ca m.codes.length cc,.slice aa m.args.length ac,.slice oa m.outs.length oc,.slice fa m.frames.length fc,.int .i64 m.steps,.int .i64 m.looks,.int .i64 m.kind,.string m.name,.string m.hold,.bool m.over,.int .i64 m.fin,.string m.text,.slice ia m.files.length ic,.slice sa m.said.length sc]] U (Eh (F2 m) U)):=fun U=>Qc6 m ca aa oa fa ia sa cc ac oc fc ic sc hs U
 have ao:Hid (∀ U,Calls Tryz.prog 25 #[.agg #[.slice ca m.codes.length cc,.slice aa m.args.length ac,.slice oa m.outs.length oc,.slice fa m.frames.length fc,.int .i64 m.steps,.int .i64 m.looks,.int .i64 m.kind,.string m.name,.string m.hold,.bool m.over,.int .i64 m.fin,.string m.text,.slice ia m.files.length ic,.slice sa m.said.length sc]] U (Eh (C7 m) U)):=fun U=>Qc7 m ca aa oa fa ia sa cc ac oc fc ic sc hs U
 have aj:Hid (∀ U,OH w U->Calls Tryz.prog 24 #[.agg #[.string ⟨#[]⟩,.slice oa m.outs.length oc]] U fun e w'=>e = .returned (.bool (Gb ⟨#[]⟩ m.outs))/\OH U w'):=fun U hU=>Qca ⟨#[]⟩ m.outs _ U Ov hs.outs.1 hs.outs.2 ((Gm hM.outs rfl).below hU)
 have dc:Hid (∀ U,OH w U->∀ j (hj:j < m.codes.length),∃ g p,ca=some (OI g 0)/\g < w.heap.size/\U.cell? (OI g j)=some (.slice p m.codes[j].length m.codes[j].length)/\Calls Tryz.prog 26 #[.agg #[.slice p m.codes[j].length m.codes[j].length]] U (Eh (Bd m.codes[j]) U)):=fun U hU j hj=>by
  obtain⟨g,p,e1,e2,e3,e4⟩:=Gl hM.codes j hj;exact⟨g,p,e1,e2,(hU.cell (p:=(OI g j)) e2).trans e3,Qfs m.codes[j] p _ (hs.codes.2 _ (List.getElem_mem hj)) U (Al.mono (e4.below hU) hU.size)⟩
 have a3:Hid ((∀ c ∈ m.codes,Bd c)->C7 m->∀ U,OH w U->Calls Tryz.prog 27 #[.agg #[.slice ca m.codes.length cc,.slice aa m.args.length ac,.slice oa m.outs.length oc,.slice fa m.frames.length fc,.int .i64 m.steps,.int .i64 m.looks,.int .i64 m.kind,.string m.name,.string m.hold,.bool m.over,.int .i64 m.fin,.string m.text,.slice ia m.files.length ic,.slice sa m.said.length sc]] U (Eh (If m/\Fy m) U)):=fun hc hw U hU=>X4 m ca aa oa fa ia sa cc ac oc fc ic sc A hs hc (Qal hw) U (hM.frames.below hU) (hM.codes.below hU)
 have cf:Hid (∀ U,OH w U->Gc U (.slice ia m.files.length ic) m.files):=fun U hU=>(Jw hM.files rfl).below hU
 have ch:Hid (∀ U,OH w U->Dw U (.slice oa m.outs.length oc) m.outs):=fun U hU=>(Gm hM.outs rfl).below hU
 have h1:m.codes.length<=1048576:=hs.codes.1;have h2:m.args.length<=1048576:=hs.args.1;have h3:m.outs.length<=1048576:=hs.outs.1;have h5:m.files.length<=1048576:=hs.files.1;obtain⟨P,HP⟩:∃ P,Hid (Gk m ↔ P):=⟨_,Iff.rfl⟩;rw[show Gk m=P from propext HP.out];obtain⟨R,HR⟩:∃ R,Hid (Qah m ↔ R):=⟨_,Iff.rfl⟩;have ci:Hid (R->1<=m.codes.length):=fun h=>Qc5 (HR.out.2 h)
 have HV:Hid (P ↔ (G5 m.files 20=true/\Dy m.said 50/\(0<=m.steps/\m.steps<=4000)/\((m.over=true/\F2 m)\/(m.over=false/\(m.codes.length<=40/\m.args.length=m.codes.length/\Dy m.args 40/\Gb ⟨#[]⟩ m.outs=true/\(0<=m.looks/\m.looks<=100)/\m.fin=0/\m.text.toList=[]/\C7 m/\R))))):=by
  rw[Hid,<- HP.out,<- HR.out];exact Iff.rfl
 obtain⟨bf,cu⟩:∃ b,Hid (G5 m.files 20=b):=⟨_,(rfl:G5 m.files 20=_)⟩;obtain⟨bj,cv⟩:∃ b,Hid (Gb ⟨#[]⟩ m.outs=b):=⟨_,(rfl:Gb ⟨#[]⟩ m.outs=_)⟩;obtain⟨bv,cw⟩:∃ b,Hid (m.over=b):=⟨_,(rfl:m.over=_)⟩;rw[cu.out]at ai HV;rw[cv.out]at aj HV;rw[cw.out]at an ao a3 HV |-
 clear hM hs;obtain⟨Y,hY⟩:∃ Y,w.alloc (.cells #[.slice ca m.codes.length cc,.slice aa m.args.length ac,.slice oa m.outs.length oc,.slice fa m.frames.length fc,.int .i64 m.steps,.int .i64 m.looks,.int .i64 m.kind,.string m.name,.string m.hold,.bool bv,.int .i64 m.fin,.string m.text,.slice ia m.files.length ic,.slice sa m.said.length sc] 34)=Y:=⟨_,rfl⟩;have N:Hid (∀ U,OH Y U->U.heap[w.heap.size]? = some (.cells #[.slice ca m.codes.length cc,.slice aa m.args.length ac,.slice oa m.outs.length oc,.slice fa m.frames.length fc,.int .i64 m.steps,.int .i64 m.looks,.int .i64 m.kind,.string m.name,.string m.hold,.bool bv,.int .i64 m.fin,.string m.text,.slice ia m.files.length ic,.slice sa m.said.length sc] 34)):=by
  have h:Y.heap[w.heap.size]? = some (.cells #[.slice ca m.codes.length cc,.slice aa m.args.length ac,.slice oa m.outs.length oc,.slice fa m.frames.length fc,.int .i64 m.steps,.int .i64 m.looks,.int .i64 m.kind,.string m.name,.string m.hold,.bool bv,.int .i64 m.fin,.string m.text,.slice ia m.files.length ic,.slice sa m.said.length sc] 34):=by rw[<- hY];exact Ae w _
  exact fun U hU=>(hU.block _ (by rw[<- hY,World.size_alloc];omega)).trans h
 have a:Hid (OH w Y):=by rw[Hid,<- hY];exact Ao w _
 have dl:Y.heap.size=w.heap.size+1:=by rw[<- hY];exact World.size_alloc _ _
 have yM:=N.out Y (Below.refl _ _);obtain⟨dk,-⟩:=Aa yM 12 _ rfl;clear yM;have m1:Cv:=trivial;obtain⟨bs,b9⟩:∃ b,As m.steps 0 4000=b:=⟨_,rfl⟩;obtain⟨bc,b2⟩:∃ b,As (m.codes.length:Int) 1 40=b:=⟨_,rfl⟩;obtain⟨ba,b1⟩:∃ b,((m.args.length:Int) != (m.codes.length:Int))=b:=⟨_,rfl⟩;obtain⟨bl,b8⟩:∃ b,As m.looks 0 100=b:=⟨_,rfl⟩;obtain⟨bn,b6⟩:∃ b,(m.fin != 0)=b:=⟨_,rfl⟩;obtain⟨bt,ay⟩:∃ b,(m.text.toList != [])=b:=⟨_,rfl⟩;have ar:(m.text.toList == []) = !bt:=by rw[<- ay,bne,Bool.not_not]
 have HG:Hid (P->bf=true/\bs=true/\(bv=true\/(bc=true/\ba=false/\bl=true/\bn=false/\bt=false))):=fun h=>by
  obtain⟨v1,v2,v3,v4⟩:=HV.out.1 h;refine⟨v1,by rw[<- b9];simp[As,v3], ?_⟩;rcases v4 with v4|⟨-,v5,v6,-,-,v7,v8,v9,-,dj⟩
  ·exact .inl v4.1
  ·have dq:=ci.out dj;exact .inr ⟨by rw[<- b2];simp[As];omega,by rw[<- b1];simp[v6],by rw[<- b8];simp[As,v7],by rw[<- b6];simp[v8],by rw[<- ay];simp[v9]⟩
 rcases Qgm bf bs bv bc ba bl bn bt with⟨rfl,rfl,hv⟩|a0
 ·have b0:0<=m.steps/\m.steps<=4000:=Gf b9;cases bv
  case true =>
   go_enter Tryz.func6,Tryz.ntmps6;go_wp2_with (first
    | (go_at_call 20;refine(ai.out _ a.out).mono ?_;rintro e w2 ⟨rfl,D⟩;have F:Hid (OH Y w2):=D;have M:Hid (OH w w2):=a.out.trans (D.mono a.out.size);have q2:=N.out w2 D;obtain⟨a8,-⟩:=Aa q2 13 _ rfl;clear D q2)
    | (have _t:=m1;go_at_call 21;refine(aw.out _ M.out).mono ?_;rintro e w3 ⟨b3,rfl,G,T⟩;have E3:Hid (b3=true ↔ Dy m.said 50):=G;have u:Hid (OH Y w3):=F.out.trans (T.mono F.out.size);have B:Hid (OH w w3):=a.out.trans (u.out.mono a.out.size);have d:=N.out w3 u.out;obtain⟨c0,-⟩:=Aa d 0 _ rfl;obtain⟨c1,-⟩:=Aa d 1 _ rfl;obtain⟨c2,-⟩:=Aa d 2 _ rfl;obtain⟨c3,-⟩:=Aa d 3 _ rfl;obtain⟨c4,-⟩:=Aa d 4 _ rfl;obtain⟨c5,-⟩:=Aa d 5 _ rfl;obtain⟨c6,-⟩:=Aa d 6 _ rfl;obtain⟨c7,-⟩:=Aa d 7 _ rfl;obtain⟨c8,-⟩:=Aa d 8 _ rfl;obtain⟨c9,-⟩:=Aa d 9 _ rfl;obtain⟨a9,-⟩:=Aa d 10 _ rfl;obtain⟨bd,-⟩:=Aa d 11 _ rfl;obtain⟨be,-⟩:=Aa d 12 _ rfl;obtain⟨bg,-⟩:=Aa d 13 _ rfl;clear T d;clear G m1;have m2:Cv:=trivial;cases b3)
    | (go_at_call 22;refine(Jq OC _).mono ?_;rintro e w' ⟨rfl,rfl⟩)
    | (go_at_call 23;refine(an.out _).mono ?_;rintro e w4 ⟨b4,rfl,H,W⟩;have E4:Hid (b4=true ↔ F2 m):=H;have ap:Hid (OH w w4):=B.out.trans (W.mono B.out.size);clear H W)
    | (have _t:=m2;go_at_call 21;refine(au.out _ B.out).mono ?_;rintro e w5 ⟨b5,rfl,I,X⟩;have E5:Hid (b5=true ↔ Dy m.args 40):=I;have v:Hid (OH Y w5):=u.out.trans (X.mono u.out.size);have K:Hid (OH w w5):=a.out.trans (v.out.mono a.out.size);have l:=N.out w5 v.out;obtain⟨d0,-⟩:=Aa l 0 _ rfl;obtain⟨d1,-⟩:=Aa l 1 _ rfl;obtain⟨d2,-⟩:=Aa l 2 _ rfl;obtain⟨d3,-⟩:=Aa l 3 _ rfl;obtain⟨d4,-⟩:=Aa l 4 _ rfl;obtain⟨d5,-⟩:=Aa l 5 _ rfl;obtain⟨d6,-⟩:=Aa l 6 _ rfl;obtain⟨d7,-⟩:=Aa l 7 _ rfl;obtain⟨d8,-⟩:=Aa l 8 _ rfl;obtain⟨d9,-⟩:=Aa l 9 _ rfl;obtain⟨bh,-⟩:=Aa l 10 _ rfl;obtain⟨bi,-⟩:=Aa l 11 _ rfl;obtain⟨bk,-⟩:=Aa l 12 _ rfl;obtain⟨bm,-⟩:=Aa l 13 _ rfl;clear X l;clear I m2;cases b5)
    | (go_at_call 24;refine(aj.out _ K.out).mono ?_;rintro e w6 ⟨rfl,Z⟩;have z:Hid (OH Y w6):=v.out.trans (Z.mono v.out.size);have af:Hid (OH w w6):=a.out.trans (z.out.mono a.out.size);have r:=N.out w6 z.out;obtain⟨f0,-⟩:=Aa r 0 _ rfl;obtain⟨f1,-⟩:=Aa r 1 _ rfl;obtain⟨f2,-⟩:=Aa r 2 _ rfl;obtain⟨f3,-⟩:=Aa r 3 _ rfl;obtain⟨f4,-⟩:=Aa r 4 _ rfl;obtain⟨f5,-⟩:=Aa r 5 _ rfl;obtain⟨f6,-⟩:=Aa r 6 _ rfl;obtain⟨f7,-⟩:=Aa r 7 _ rfl;obtain⟨f8,-⟩:=Aa r 8 _ rfl;obtain⟨f9,-⟩:=Aa r 9 _ rfl;obtain⟨bo,-⟩:=Aa r 10 _ rfl;obtain⟨bp,-⟩:=Aa r 11 _ rfl;obtain⟨bq,-⟩:=Aa r 12 _ rfl;obtain⟨br,-⟩:=Aa r 13 _ rfl;clear Z r;cases bj)
    | (go_at_call 25;refine(ao.out _).mono ?_;rintro e w7 ⟨b7,rfl,J,ab⟩;have E7:Hid (b7=true ↔ C7 m):=J;have C:Hid (OH Y w7):=z.out.trans (ab.mono z.out.size);have ag:Hid (OH w w7):=a.out.trans (C.out.mono a.out.size);have s:=N.out w7 C.out;obtain⟨g0,-⟩:=Aa s 0 _ rfl;obtain⟨g1,-⟩:=Aa s 1 _ rfl;obtain⟨g2,-⟩:=Aa s 2 _ rfl;obtain⟨g3,-⟩:=Aa s 3 _ rfl;obtain⟨g4,-⟩:=Aa s 4 _ rfl;obtain⟨g5,-⟩:=Aa s 5 _ rfl;obtain⟨g6,-⟩:=Aa s 6 _ rfl;obtain⟨g7,-⟩:=Aa s 7 _ rfl;obtain⟨g8,-⟩:=Aa s 8 _ rfl;obtain⟨g9,-⟩:=Aa s 9 _ rfl;obtain⟨bu,-⟩:=Aa s 10 _ rfl;obtain⟨bw,-⟩:=Aa s 11 _ rfl;obtain⟨bx,-⟩:=Aa s 12 _ rfl;obtain⟨bz,-⟩:=Aa s 13 _ rfl;clear ab s;clear J;cases b7))
   ·go_ret;refine⟨false,rfl,⟨fun h=>by simp at h,fun h => ?_⟩,B.out⟩;have hh:=E3.out.2 (HV.out.1 h).2.1;simp at hh
   ·go_ret;refine⟨b4,rfl, ?_,ap.out⟩;rw[HV.out,E4.out];have e3:=E3.out.1 (by first|rfl|trivial);exact⟨fun h=>⟨by first|rfl|trivial,e3,b0,.inl ⟨by first|rfl|trivial,h⟩⟩,fun h=>by
     rcases h.2.2.2 with h|h
     ·exact h.2
     ·have:=h.1;simp at this⟩
  case false =>
   rcases hv with hv|⟨rfl,rfl,rfl,rfl,rfl⟩
   ·cases hv
   ·have a5:Hid (P ↔ (Dy m.said 50/\(m.codes.length<=40/\m.args.length=m.codes.length/\Dy m.args 40/\bj=true/\(0<=m.looks/\m.looks<=100)/\m.fin=0/\m.text.toList=[]/\C7 m/\R))):=by
     rw[Hid,HV.out];exact⟨fun h=>⟨h.2.1,by rcases h.2.2.2 with h|h;exact absurd h.1 OB;exact h.2⟩,fun h=>⟨rfl,h.1,b0,.inr ⟨rfl,h.2⟩⟩⟩
    have de:1<=m.codes.length/\m.codes.length<=40:=(by have:=Gf b2;omega);have dh:0<=m.looks/\m.looks<=100:=Gf b8;have ct:Hid (m.args.length=m.codes.length):=by
     have h:(m.args.length:Int)=m.codes.length:=(by simpa using b1);exact Int.ofNat_inj.1 h
    have db:Hid (m.fin=0):=(by have h:m.fin=0:=(by simpa using b6);exact h);have dd:Hid (m.text.toList=[]):=(by have h:m.text.toList=[]:=(by simpa using ay);exact h);clear HV b0 an HG;simp only[Bool.not_false]at ar;go_enter Tryz.func6,Tryz.ntmps6;go_wp2_with (first
     | (go_at_call 20;refine(ai.out _ a.out).mono ?_;rintro e w2 ⟨rfl,D⟩;have F:Hid (OH Y w2):=D;have M:Hid (OH w w2):=a.out.trans (D.mono a.out.size);have q2:=N.out w2 D;obtain⟨a8,-⟩:=Aa q2 13 _ rfl;clear D q2)
     | (have _t:=m1;go_at_call 21;refine(aw.out _ M.out).mono ?_;rintro e w3 ⟨b3,rfl,G,T⟩;have E3:Hid (b3=true ↔ Dy m.said 50):=G;have u:Hid (OH Y w3):=F.out.trans (T.mono F.out.size);have B:Hid (OH w w3):=a.out.trans (u.out.mono a.out.size);have d:=N.out w3 u.out;obtain⟨c0,-⟩:=Aa d 0 _ rfl;obtain⟨c1,-⟩:=Aa d 1 _ rfl;obtain⟨c2,-⟩:=Aa d 2 _ rfl;obtain⟨c3,-⟩:=Aa d 3 _ rfl;obtain⟨c4,-⟩:=Aa d 4 _ rfl;obtain⟨c5,-⟩:=Aa d 5 _ rfl;obtain⟨c6,-⟩:=Aa d 6 _ rfl;obtain⟨c7,-⟩:=Aa d 7 _ rfl;obtain⟨c8,-⟩:=Aa d 8 _ rfl;obtain⟨c9,-⟩:=Aa d 9 _ rfl;obtain⟨a9,-⟩:=Aa d 10 _ rfl;obtain⟨bd,-⟩:=Aa d 11 _ rfl;obtain⟨be,-⟩:=Aa d 12 _ rfl;obtain⟨bg,-⟩:=Aa d 13 _ rfl;clear T d;clear G m1;have m2:Cv:=trivial;cases b3)
     | (go_at_call 22;refine(Jq OC _).mono ?_;rintro e w' ⟨rfl,rfl⟩)
     | (go_at_call 23;refine(an.out _).mono ?_;rintro e w4 ⟨b4,rfl,H,W⟩;have E4:Hid (b4=true ↔ F2 m):=H;have ap:Hid (OH w w4):=B.out.trans (W.mono B.out.size);clear H W)
     | (have _t:=m2;go_at_call 21;refine(au.out _ B.out).mono ?_;rintro e w5 ⟨b5,rfl,I,X⟩;have E5:Hid (b5=true ↔ Dy m.args 40):=I;have v:Hid (OH Y w5):=u.out.trans (X.mono u.out.size);have K:Hid (OH w w5):=a.out.trans (v.out.mono a.out.size);have l:=N.out w5 v.out;obtain⟨d0,-⟩:=Aa l 0 _ rfl;obtain⟨d1,-⟩:=Aa l 1 _ rfl;obtain⟨d2,-⟩:=Aa l 2 _ rfl;obtain⟨d3,-⟩:=Aa l 3 _ rfl;obtain⟨d4,-⟩:=Aa l 4 _ rfl;obtain⟨d5,-⟩:=Aa l 5 _ rfl;obtain⟨d6,-⟩:=Aa l 6 _ rfl;obtain⟨d7,-⟩:=Aa l 7 _ rfl;obtain⟨d8,-⟩:=Aa l 8 _ rfl;obtain⟨d9,-⟩:=Aa l 9 _ rfl;obtain⟨bh,-⟩:=Aa l 10 _ rfl;obtain⟨bi,-⟩:=Aa l 11 _ rfl;obtain⟨bk,-⟩:=Aa l 12 _ rfl;obtain⟨bm,-⟩:=Aa l 13 _ rfl;clear X l;clear I m2;cases b5)
     | (go_at_call 24;refine(aj.out _ K.out).mono ?_;rintro e w6 ⟨rfl,Z⟩;have z:Hid (OH Y w6):=v.out.trans (Z.mono v.out.size);have af:Hid (OH w w6):=a.out.trans (z.out.mono a.out.size);have r:=N.out w6 z.out;obtain⟨f0,-⟩:=Aa r 0 _ rfl;obtain⟨f1,-⟩:=Aa r 1 _ rfl;obtain⟨f2,-⟩:=Aa r 2 _ rfl;obtain⟨f3,-⟩:=Aa r 3 _ rfl;obtain⟨f4,-⟩:=Aa r 4 _ rfl;obtain⟨f5,-⟩:=Aa r 5 _ rfl;obtain⟨f6,-⟩:=Aa r 6 _ rfl;obtain⟨f7,-⟩:=Aa r 7 _ rfl;obtain⟨f8,-⟩:=Aa r 8 _ rfl;obtain⟨f9,-⟩:=Aa r 9 _ rfl;obtain⟨bo,-⟩:=Aa r 10 _ rfl;obtain⟨bp,-⟩:=Aa r 11 _ rfl;obtain⟨bq,-⟩:=Aa r 12 _ rfl;obtain⟨br,-⟩:=Aa r 13 _ rfl;clear Z r;cases bj)
     | (go_at_call 25;refine(ao.out _).mono ?_;rintro e w7 ⟨b7,rfl,J,ab⟩;have E7:Hid (b7=true ↔ C7 m):=J;have C:Hid (OH Y w7):=z.out.trans (ab.mono z.out.size);have ag:Hid (OH w w7):=a.out.trans (C.out.mono a.out.size);have s:=N.out w7 C.out;obtain⟨g0,-⟩:=Aa s 0 _ rfl;obtain⟨g1,-⟩:=Aa s 1 _ rfl;obtain⟨g2,-⟩:=Aa s 2 _ rfl;obtain⟨g3,-⟩:=Aa s 3 _ rfl;obtain⟨g4,-⟩:=Aa s 4 _ rfl;obtain⟨g5,-⟩:=Aa s 5 _ rfl;obtain⟨g6,-⟩:=Aa s 6 _ rfl;obtain⟨g7,-⟩:=Aa s 7 _ rfl;obtain⟨g8,-⟩:=Aa s 8 _ rfl;obtain⟨g9,-⟩:=Aa s 9 _ rfl;obtain⟨bu,-⟩:=Aa s 10 _ rfl;obtain⟨bw,-⟩:=Aa s 11 _ rfl;obtain⟨bx,-⟩:=Aa s 12 _ rfl;obtain⟨bz,-⟩:=Aa s 13 _ rfl;clear ab s;clear J;cases b7))
    all_goals try (
     go_ret
     refine⟨false,rfl,⟨fun h=>by simp at h,fun h => ?_⟩,by first|exact ag.out|exact af.out|exact K.out|exact B.out⟩
     obtain⟨v1,-,-,v2,v3,-,-,-,v4,-⟩:=a5.out.1 h
     first|(have hh:=E7.out.2 v4;simp at hh;done)|(simp at v3;done)|(have hh:=E5.out.2 v2;simp at hh;done)|(have hh:=E3.out.2 v1;simp at hh;done))
    have cj:Hid (C7 m):=E7.out.1 (by first|rfl|trivial);have a4:Hid (P ↔ Qah m):=by
     rw[Hid,a5.out,HR.out];have e3:=E3.out.1 (by first|rfl|trivial);have e5:=E5.out.1 (by first|rfl|trivial);exact⟨fun h=>h.2.2.2.2.2.2.2.2.2,fun h=>⟨e3,de.2,ct.out,e5,by first|rfl|trivial,dh,db.out,dd.out,cj.out,h⟩⟩
    have az:Hid ((∀ c ∈ m.codes,Bd c)->∀ U,OH w U->Calls Tryz.prog 27 #[.agg #[.slice ca m.codes.length cc,.slice aa m.args.length ac,.slice oa m.outs.length oc,.slice fa m.frames.length fc,.int .i64 m.steps,.int .i64 m.looks,.int .i64 m.kind,.string m.name,.string m.hold,.bool false,.int .i64 m.fin,.string m.text,.slice ia m.files.length ic,.slice sa m.said.length sc]] U (Eh (If m/\Fy m) U)):=fun hc=>a3.out hc cj.out
    clear a3 E3 E5 E7 a5 HR ci HP au aw ao aj ai b9 b2 b1 b8 b6 ay ar c0 c1 c2 c3 c4 c5 c6 c7 c8 c9 a9 bd be bg d0 d1 d2 d3 d4 d5 d6 d7 d8 d9 bh bi bk bm f0 f1 f2 f3 f4 f5 f6 f7 f8 f9 bo bp bq br g0 g1 g2 g3 g4 g5 g6 g7 g8 g9 bu bw bx bz a8 dk;obtain⟨nf,al⟩:∃ n,Hid (m.files.length=n):=⟨_,(rfl:m.files.length=_)⟩;obtain⟨no,ad⟩:∃ n,Hid (m.outs.length=n):=⟨_,(rfl:m.outs.length=_)⟩;obtain⟨nc,ak⟩:∃ n,Hid (m.codes.length=n):=⟨_,(rfl:m.codes.length=_)⟩;rw[al.out,ad.out,ak.out]at az N;rw[al.out]at h5 cf;rw[ad.out]at h3 ch;rw[ak.out]at h1;rw[al.out,ad.out,ak.out];go_loopw [3] (fun t wr => ∃ i:Nat,i<=nf/\t = .int .i64 (i:Int)/\OH Y wr/\Hid (∀ q (hq:q < m.files.length),q < i->∃ o ∈ m.outs,o.toList=m.files[q].name.toList)) (fun t _=>nf - (intOf t).toNat);case atStart=>exact⟨0,by omega,rfl,C.out,fun q hq h=>Ou⟩
    case round =>
     obtain⟨i,hi,rfl,ax,HD⟩:=hrel;obtain⟨w8,di⟩:∃ V,V=wr:=⟨_,rfl⟩;subst di;have a1:Hid (OH Y w8):=ax;have a6:Hid (OH w w8):=a.out.trans (ax.mono a.out.size);have L:=N.out w8 ax;obtain⟨cs,-⟩:=Aa L 12 _ rfl;clear L ax;by_cases hlt:i < nf
     ·have cr:(i:Int) < (nf:Int):=Ou;have cq:i < m.files.length:=(by rw[al.out];exact hlt);obtain⟨g,o,ei,hg,d0⟩:∃ g o,ia=some (OI g o)/\g < w8.heap.size/\w8.cell? (OI g (o+i * 2))=some (.string m.files[i].name):=by
       obtain⟨a',cp,e,hc⟩:=cf.out w8 a6.out;injection e with e1;subst e1;obtain⟨g,o,h1,h2,h3,_⟩:=hc i cq;exact⟨g,o,h1,h2,h3⟩
      subst ei;obtain⟨x,HX⟩:∃ x,Hid (m.files[i].name=x):=⟨_,(rfl:m.files[i].name=_)⟩;rw[HX.out]at d0;have cy:Hid (w8.cell? (OI g (o+i * 2))=some (.string x)):=d0;clear d0;go_wp2_with fail;go_loopw [4,5] (fun tb tk wr => ∃ (k:Nat) (b:Bool),k<=no/\tb = .bool b/\tk = .int .i64 (k:Int)/\OH w8 wr/\Hid (b=true ↔ ∃ q,∃ (hq:q < m.outs.length),q < k/\m.outs[q].toList=x.toList)) (fun _ tk _=>no - (intOf tk).toNat);case atStart=>exact⟨0,false,by omega,rfl,rfl,Below.refl _ _,by constructor;(intro h;cases h);(rintro⟨q,_,h,_⟩;omega)⟩
      case round =>
       obtain⟨k,b,hk,rfl,rfl,Q,HE⟩:=hrel;have cd:Hid (OH Y wr):=a1.out.trans (Q.mono a1.out.size);have O:Hid (OH w wr):=a6.out.trans (Q.mono a6.out.size);have L:=N.out wr cd.out;obtain⟨cs,-⟩:=Aa L 12 _ rfl;obtain⟨p2,-⟩:=Aa L 2 _ rfl;have d0:=(Q.cell (p:=(OI g (o+i * 2))) hg).trans cy.out;clear L;by_cases hkl:k < no
       ·have cn:(k:Int) < (no:Int):=Ou;have co:k < m.outs.length:=(by rw[ad.out];exact hkl);obtain⟨g2,o2,ei,df,d2⟩:∃ g o,oa=some (OI g o)/\g < wr.heap.size/\wr.cell? (OI g (o+k))=some (.string m.outs[k]):=by
         obtain⟨a',cp,e,hc⟩:=ch.out wr O.out;injection e with e1;subst e1;exact hc k co
        subst ei;obtain⟨y,a7⟩:∃ y,Hid (m.outs[k]=y):=⟨_,(rfl:m.outs[k]=_)⟩;rw[a7.out]at d2;have E:Hid (OH w8 wr):=Q;cases b with
        | true =>
         have ah:Hid ((true:Bool)=true ↔ ∃ q,∃ (hq:q < m.outs.length),q < k+1/\m.outs[q].toList=x.toList):=⟨fun _=>by obtain⟨q,h1,h2,h3⟩:=HE.out.1 rfl;exact⟨q,h1,by omega,h3⟩,fun _=>rfl⟩;clear HE;go_wp2_with fail;go_quiet (fail);go_wp2_with fail;go_roundw;case rel=>exact⟨k+1,true,by omega,rfl,by go_num,Aj _ E.out,⟨fun _=>ah.out.1 (by first|rfl|trivial),fun _=>rfl⟩⟩
         case measure=>simp[intOf];omega
        | false =>
         cases hxy:(y.toList == x.toList) with
         | true =>
          have ah:Hid ((true:Bool)=true ↔ ∃ q,∃ (hq:q < m.outs.length),q < k+1/\m.outs[q].toList=x.toList):=⟨fun _=>⟨k,co,by omega,by rw[a7.out];exact eq_of_beq hxy⟩,fun _=>rfl⟩;clear HE;go_wp2_with fail;go_quiet (fail);go_wp2_with fail;go_roundw;case rel=>exact⟨k+1,true,by omega,rfl,by go_num,Aj _ E.out,⟨fun _=>ah.out.1 (by first|rfl|trivial),fun _=>rfl⟩⟩
          case measure=>simp[intOf];omega
         | false =>
          have ah:Hid ((false:Bool)=true ↔ ∃ q,∃ (hq:q < m.outs.length),q < k+1/\m.outs[q].toList=x.toList):=by
           constructor
           ·intro h;cases h
           ·rintro⟨q,h1,h2,h3⟩;by_cases e:q=k
            ·subst e;rw[a7.out]at h3;rw[h3]at hxy;simp at hxy
            ·exact HE.out.2 ⟨q,h1,by omega,h3⟩
          clear HE;go_wp2_with fail;go_quiet (fail);go_wp2_with fail;go_roundw;case rel=>exact⟨k+1,false,by omega,rfl,by go_num,Aj _ E.out,ah⟩
          case measure=>simp[intOf];omega
       ·have cn:¬ (k:Int) < (no:Int):=Ou;cases b with
        | true =>
         have cz:Hid (∃ o ∈ m.outs,o.toList=m.files[i].name.toList):=by
          obtain⟨q,h1,_,h3⟩:=HE.out.1 rfl;exact⟨m.outs[q],List.getElem_mem h1,by rw[HX.out];exact h3⟩
         clear HE;go_wp2_with fail;go_roundw;case rel =>
          refine⟨i+1,by omega,by go_num,cd.out,fun q hq h => ?_⟩;by_cases e:q=i
          ·subst e;exact cz.out
          ·exact HD.out q hq Ou
         case measure=>simp[intOf];omega
        | false =>
         have am:Hid (¬ P):=fun h=>by
          obtain⟨o,h1,h2⟩:=(a4.out.1 h).1 _ (List.getElem_mem cq);obtain⟨q,h3,rfl⟩:=List.getElem_of_mem h1;have:=HE.out.2 ⟨q,h3,by have:=ad.out;omega,by rw[<- HX.out];exact h2⟩;cases this
         clear HE;go_wp2_with fail;go_ret;exact⟨false,rfl,⟨fun h=>by simp at h,fun h=>absurd h am.out⟩,O.out⟩
     ·have cr:¬ (i:Int) < (nf:Int):=Ou;have da:Hid (∀ f ∈ m.files,∃ o ∈ m.outs,o.toList=f.name.toList):=fun f hf=>by
       obtain⟨q,hq,rfl⟩:=List.getElem_of_mem hf;exact HD.out q hq (by have:=al.out;omega)
      clear HD;go_wp2_with fail;go_loopw [6] (fun t wr => ∃ j:Nat,j<=nc/\t = .int .i64 (j:Int)/\OH Y wr/\Hid (∀ q (hq:q < m.codes.length),q < j->Bd m.codes[q])) (fun t _=>nc - (intOf t).toNat);case atStart=>exact⟨0,by omega,rfl,a1.out,fun q hq h=>Ou⟩
      case round =>
       obtain⟨j,hj,rfl,Q,HD⟩:=hrel;have O:Hid (OH w wr):=a.out.trans (Q.mono a.out.size);have L:=N.out wr Q;obtain⟨p0,-⟩:=Aa L 0 _ rfl;obtain⟨p1,-⟩:=Aa L 1 _ rfl;obtain⟨p2,-⟩:=Aa L 2 _ rfl;obtain⟨p3,-⟩:=Aa L 3 _ rfl;obtain⟨p4,-⟩:=Aa L 4 _ rfl;obtain⟨p5,-⟩:=Aa L 5 _ rfl;obtain⟨p6,-⟩:=Aa L 6 _ rfl;obtain⟨p7,-⟩:=Aa L 7 _ rfl;obtain⟨p8,-⟩:=Aa L 8 _ rfl;obtain⟨p9,-⟩:=Aa L 9 _ rfl;obtain⟨dm,-⟩:=Aa L 10 _ rfl;obtain⟨dn,-⟩:=Aa L 11 _ rfl;obtain⟨cs,-⟩:=Aa L 12 _ rfl;obtain⟨dp,-⟩:=Aa L 13 _ rfl;clear L;by_cases hjl:j < nc
       ·have dg:(j:Int) < (nc:Int):=Ou;have cm:j < m.codes.length:=(by rw[ak.out];exact hjl);obtain⟨g2,p,ei,df,d2,ae⟩:=dc.out wr O.out j cm;subst ei;obtain⟨cl,cx⟩:∃ x,Hid (m.codes[j].length=x):=⟨_,(rfl:m.codes[j].length=_)⟩;rw[cx.out]at d2 ae;have a2:Hid (Calls Tryz.prog 26 #[.agg #[.slice p cl cl]] wr (Eh (Bd m.codes[j]) wr)):=ae;clear ae;go_wp2_with (first|(go_at_call 26;refine a2.out.mono ?_;rintro e cb ⟨bb,rfl,aq,S⟩;have av:Hid (bb=true ↔ Bd m.codes[j]):=aq;have E:Hid (OH wr cb):=S;clear aq S;cases bb))
        ·have am:Hid (¬ P):=fun h=>by
          have:=av.out.2 ((a4.out.1 h).2.1 _ (List.getElem_mem cm));simp at this
         go_ret;exact⟨false,rfl,⟨fun h=>by simp at h,fun h=>absurd h am.out⟩,O.out.trans (E.out.mono O.out.size)⟩
        ·have ck:Hid (Bd m.codes[j]):=av.out.1 (by first|rfl|trivial);go_roundw;case rel =>
          refine⟨j+1,by omega,by go_num,Q.trans (E.out.mono Q.size),fun q hq h => ?_⟩;by_cases e:q=j
          ·subst e;exact ck.out
          ·exact HD.out q hq Ou
         case measure=>simp[intOf];omega
       ·have dg:¬ (j:Int) < (nc:Int):=Ou;have ce:Hid (∀ c ∈ m.codes,Bd c):=fun c hc=>by
         obtain⟨q,hq,rfl⟩:=List.getElem_of_mem hc;exact HD.out q hq (by have:=ak.out;omega)
        have cg:Hid (Calls Tryz.prog 27 #[.agg #[.slice ca nc cc,.slice aa m.args.length ac,.slice oa no oc,.slice fa m.frames.length fc,.int .i64 m.steps,.int .i64 m.looks,.int .i64 m.kind,.string m.name,.string m.hold,.bool false,.int .i64 m.fin,.string m.text,.slice ia nf ic,.slice sa m.said.length sc]] wr (Eh (If m/\Fy m) wr)):=az.out ce.out wr O.out;clear HD;go_wp2_with (first|(go_at_call 27;refine cg.out.mono ?_;rintro e cb ⟨bb,rfl,aq,S⟩;have av:Hid (bb=true ↔ (If m/\Fy m)):=aq;have E:Hid (OH wr cb):=S;clear aq S));go_ret;refine⟨bb,rfl, ?_,O.out.trans (E.out.mono O.out.size)⟩;rw[av.out,a4.out];exact⟨fun h=>⟨da.out,ce.out,h.1,h.2⟩,fun h=>⟨h.2.2.1,h.2.2.2⟩⟩
 ·have ad:Hid (¬ P):=fun h=>by
   obtain⟨g1,g2,g3⟩:=HG.out h;subst g1 g2;rcases g3 with rfl|⟨rfl,rfl,rfl,rfl,rfl⟩ <;> simp at a0
  clear HG;rcases a0 with rfl|⟨rfl,rfl⟩|⟨rfl,rfl,rfl,rfl⟩|⟨rfl,rfl,rfl,rfl,rfl⟩|⟨rfl,rfl,rfl,rfl,rfl,rfl⟩|⟨rfl,rfl,rfl,rfl,rfl,rfl,rfl⟩|⟨rfl,rfl,rfl,rfl,rfl,rfl,rfl,rfl⟩
  all_goals
   try simp only[Bool.not_true]at ar
   go_enter Tryz.func6,Tryz.ntmps6;go_wp2_with (first
    | (go_at_call 20;refine(ai.out _ a.out).mono ?_;rintro e w2 ⟨rfl,D⟩;have F:Hid (OH Y w2):=D;have M:Hid (OH w w2):=a.out.trans (D.mono a.out.size);have q2:=N.out w2 D;obtain⟨a8,-⟩:=Aa q2 13 _ rfl;clear D q2)
    | (have _t:=m1;go_at_call 21;refine(aw.out _ M.out).mono ?_;rintro e w3 ⟨b3,rfl,G,T⟩;have E3:Hid (b3=true ↔ Dy m.said 50):=G;have u:Hid (OH Y w3):=F.out.trans (T.mono F.out.size);have B:Hid (OH w w3):=a.out.trans (u.out.mono a.out.size);have d:=N.out w3 u.out;obtain⟨c0,-⟩:=Aa d 0 _ rfl;obtain⟨c1,-⟩:=Aa d 1 _ rfl;obtain⟨c2,-⟩:=Aa d 2 _ rfl;obtain⟨c3,-⟩:=Aa d 3 _ rfl;obtain⟨c4,-⟩:=Aa d 4 _ rfl;obtain⟨c5,-⟩:=Aa d 5 _ rfl;obtain⟨c6,-⟩:=Aa d 6 _ rfl;obtain⟨c7,-⟩:=Aa d 7 _ rfl;obtain⟨c8,-⟩:=Aa d 8 _ rfl;obtain⟨c9,-⟩:=Aa d 9 _ rfl;obtain⟨a9,-⟩:=Aa d 10 _ rfl;obtain⟨bd,-⟩:=Aa d 11 _ rfl;obtain⟨be,-⟩:=Aa d 12 _ rfl;obtain⟨bg,-⟩:=Aa d 13 _ rfl;clear T d;clear G m1;have m2:Cv:=trivial;cases b3)
    | (go_at_call 22;refine(Jq OC _).mono ?_;rintro e w' ⟨rfl,rfl⟩)
    | (go_at_call 23;refine(an.out _).mono ?_;rintro e w4 ⟨b4,rfl,H,W⟩;have E4:Hid (b4=true ↔ F2 m):=H;have ap:Hid (OH w w4):=B.out.trans (W.mono B.out.size);clear H W)
    | (have _t:=m2;go_at_call 21;refine(au.out _ B.out).mono ?_;rintro e w5 ⟨b5,rfl,I,X⟩;have E5:Hid (b5=true ↔ Dy m.args 40):=I;have v:Hid (OH Y w5):=u.out.trans (X.mono u.out.size);have K:Hid (OH w w5):=a.out.trans (v.out.mono a.out.size);have l:=N.out w5 v.out;obtain⟨d0,-⟩:=Aa l 0 _ rfl;obtain⟨d1,-⟩:=Aa l 1 _ rfl;obtain⟨d2,-⟩:=Aa l 2 _ rfl;obtain⟨d3,-⟩:=Aa l 3 _ rfl;obtain⟨d4,-⟩:=Aa l 4 _ rfl;obtain⟨d5,-⟩:=Aa l 5 _ rfl;obtain⟨d6,-⟩:=Aa l 6 _ rfl;obtain⟨d7,-⟩:=Aa l 7 _ rfl;obtain⟨d8,-⟩:=Aa l 8 _ rfl;obtain⟨d9,-⟩:=Aa l 9 _ rfl;obtain⟨bh,-⟩:=Aa l 10 _ rfl;obtain⟨bi,-⟩:=Aa l 11 _ rfl;obtain⟨bk,-⟩:=Aa l 12 _ rfl;obtain⟨bm,-⟩:=Aa l 13 _ rfl;clear X l;clear I m2;cases b5)
    | (go_at_call 24;refine(aj.out _ K.out).mono ?_;rintro e w6 ⟨rfl,Z⟩;have z:Hid (OH Y w6):=v.out.trans (Z.mono v.out.size);have af:Hid (OH w w6):=a.out.trans (z.out.mono a.out.size);have r:=N.out w6 z.out;obtain⟨f0,-⟩:=Aa r 0 _ rfl;obtain⟨f1,-⟩:=Aa r 1 _ rfl;obtain⟨f2,-⟩:=Aa r 2 _ rfl;obtain⟨f3,-⟩:=Aa r 3 _ rfl;obtain⟨f4,-⟩:=Aa r 4 _ rfl;obtain⟨f5,-⟩:=Aa r 5 _ rfl;obtain⟨f6,-⟩:=Aa r 6 _ rfl;obtain⟨f7,-⟩:=Aa r 7 _ rfl;obtain⟨f8,-⟩:=Aa r 8 _ rfl;obtain⟨f9,-⟩:=Aa r 9 _ rfl;obtain⟨bo,-⟩:=Aa r 10 _ rfl;obtain⟨bp,-⟩:=Aa r 11 _ rfl;obtain⟨bq,-⟩:=Aa r 12 _ rfl;obtain⟨br,-⟩:=Aa r 13 _ rfl;clear Z r;cases bj)
    | (go_at_call 25;refine(ao.out _).mono ?_;rintro e w7 ⟨b7,rfl,J,ab⟩;have E7:Hid (b7=true ↔ C7 m):=J;have C:Hid (OH Y w7):=z.out.trans (ab.mono z.out.size);have ag:Hid (OH w w7):=a.out.trans (C.out.mono a.out.size);have s:=N.out w7 C.out;obtain⟨g0,-⟩:=Aa s 0 _ rfl;obtain⟨g1,-⟩:=Aa s 1 _ rfl;obtain⟨g2,-⟩:=Aa s 2 _ rfl;obtain⟨g3,-⟩:=Aa s 3 _ rfl;obtain⟨g4,-⟩:=Aa s 4 _ rfl;obtain⟨g5,-⟩:=Aa s 5 _ rfl;obtain⟨g6,-⟩:=Aa s 6 _ rfl;obtain⟨g7,-⟩:=Aa s 7 _ rfl;obtain⟨g8,-⟩:=Aa s 8 _ rfl;obtain⟨g9,-⟩:=Aa s 9 _ rfl;obtain⟨bu,-⟩:=Aa s 10 _ rfl;obtain⟨bw,-⟩:=Aa s 11 _ rfl;obtain⟨bx,-⟩:=Aa s 12 _ rfl;obtain⟨bz,-⟩:=Aa s 13 _ rfl;clear ab s;clear J;cases b7))
   all_goals
    go_ret;exact⟨false,rfl,⟨fun h=>by simp at h,fun h=>absurd h ad.out⟩,by first|exact ag.out|exact af.out|exact K.out|exact B.out|exact M.out⟩
end Go.Proofs.YtahibkjkpmdhgaaGreatDoor
