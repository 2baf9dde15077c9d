import Derived.Test.YtjlaedokfbcbpaaGreatDoorKPrjY
import Derived.Test.YtjlaedokfbcbpaaGreatDoorKTreeZI
import Derived.Test.YtjlaedokfbcbpaaGreatDoorShelf
import Derived.Lib.IndexAny
import Derived.Lib.ParseIntBCases
set_option maxRecDepth 100000
set_option maxHeartbeats 4000000
namespace Go.Proofs.YtjlaedokfbcbpaaGreatDoor
open Go.RowKit Proofs.Tryz
theorem E0.up {g g':Nat} {w:World} (h:E0 g w) (hg:g<=g'):E0 g' w :=
 ⟨h.type,h.un,h.bin,h.built,by have:=h.lt;omega⟩
theorem Yc : ∀ (fs:List C4) (j:Nat) (h:j < fs.length),(fs.flatMap (fun f=>[Value.string f.name,.int .i64 f.result,f.sp,f.sb]))[j * 4]? = some (.string fs[j].name)/\(fs.flatMap (fun f=>[Value.string f.name,.int .i64 f.result,f.sp,f.sb]))[j * 4+1]? = some (.int .i64 fs[j].result)/\(fs.flatMap (fun f=>[Value.string f.name,.int .i64 f.result,f.sp,f.sb]))[j * 4+2]? = some fs[j].sp/\(fs.flatMap (fun f=>[Value.string f.name,.int .i64 f.result,f.sp,f.sb]))[j * 4+3]? = some fs[j].sb
 | f::r,0,_=>by simp
 | f::r,j+1,h=>by
  have g:=Yc r j (by simpa using h)
  have a:(j+1) * 4=j * 4+1+1+1+1:=OC
  rw[a]
  have b:j * 4+1+1+1+1+1=(j * 4+1)+1+1+1+1:=OC
  have c:j * 4+1+1+1+1+2=(j * 4+2)+1+1+1+1:=OC
  have d:j * 4+1+1+1+1+3=(j * 4+3)+1+1+1+1:=OC
  rw[b,c,d]
  simp only[List.flatMap_cons,List.cons_append,List.nil_append,List.getElem?_cons_succ,List.getElem_cons_succ]
  exact g
theorem Qmd {P:Nat->Prop} {g:Nat} {w0 w1:World} {SF:Value} {fs:List C4} (hP:∀ k,P k->k < g) (h:Bk P w0 SF fs.length (fs.flatMap (fun f=>[.string f.name,.int .i64 f.result,f.sp,f.sb]))) (hw:Below g w0 w1) (j:Nat) (hj:j < fs.length) :
  ∃ gu uc,SF = .slice (some (OK gu 0)) fs.length uc/\w1.cell? (OK gu (j * 4))=some (.string fs[j].name)/\w1.cell? (OK gu (j * 4+1))=some (.int .i64 fs[j].result)/\w1.cell? (OK gu (j * 4+2))=some fs[j].sp/\w1.cell? (OK gu (j * 4+3))=some fs[j].sb:=by
 obtain⟨a,c,rfl,q⟩:=h;obtain⟨n,r,s,t⟩:=Yc fs j hj;obtain⟨k,o,v,l⟩:=q _ _ n;have i:∀ m u,(fs.flatMap (fun f=>[Value.string f.name,.int .i64 f.result,f.sp,f.sb]))[m]? = some u->w1.cell? (OK k m)=some u:=fun m u hm=>by
  obtain⟨y,d,x,b⟩:=q _ _ hm;rw[o]at d;injection d with e;injection e with e;subst e;rw[hw.cell (p:=(OK k m)) (hP k v)];exact b
 exact⟨k,c,by rw[o],i _ _ n,i _ _ r,i _ _ s,i _ _ t⟩
theorem Qpn (t:Aa):(Mz t).data.toList≠[]:=by
 obtain⟨d,ks⟩:=t;intro h;have:=congrArg List.length h;rw[Mz,Mu]at this;simp at this
def If (t:Aa) (j:Nat):List UInt8:=(t.kids.take j).flatMap (fun f=>(Mz f).data.toList)
theorem Qdj (t:Aa) (n:Nat) (h:t.kids.length<=n):If t n=Ej t:=by rw[If,List.take_of_length_le h];rfl
theorem Qbk (t:Aa) (j:Nat) (h:j < t.kids.length):If t (j+1)=If t j++(Mz t.kids[j]).data.toList:=by
 have a:t.kids.take (j+1)=t.kids.take j++[t.kids[j]]:=by rw[List.take_add_one,List.getElem?_eq_getElem h];rfl
 rw[If,a,List.flatMap_append,If];simp
theorem Ye (ns:List Ae) (v:Value) (w:World) (hN:Bz w v ns) (HX:Hid (∀ d ∈ ns,d.text.size<=1048576)) (hG:E8 w) (hW:Ed w) (HT:Hid (E0 w.heap.size w)) (HP:Hid (∀ E,Below w.heap.size w E->Lib.TabIs prog E "internal/strconv.uint64pow10" .u64 Lib.pow10Tab)) :
  Calls prog 5 #[.agg #[v]] w fun e w'=>e = .returned (.string (Dd ns))/\Below w.heap.size w w':=by
 have A:∀ o:Obj,Below w.heap.size w (w.alloc o):=fun o=>OP w o
 have a4:∃ a c,v = .slice a ns.length c:=by obtain⟨a,c,h,_⟩:=hN;exact⟨a,c,h⟩
 obtain⟨a,an,rfl⟩:=a4
 have R:Hid (∀ o,Calls prog 13 #[.agg #[.slice a ns.length an]] (w.alloc o) fun e w'=>Nl (w.alloc o) ns e w'):=fun o=>rootOf_any ns _ _ (E9 hN (A _)) HX.out (hG.below (A _)) (hW.below (A _))
 clear hN hG hW
 cases hv:Bj ns with
 | false =>
  have HV:Hid (Dd ns=⟨#[]⟩):=by
   rw[Hid,Dd,if_neg (by rw[Im,hv];decide)]
  revert R
  generalize ns.length=n
  intro R
  go_enter func5,ntmps5
  go_wp2_with (go_at_call 13;(refine(R.out _).mono ?_;rintro e E ⟨⟨G,q,cx,rfl,_⟩,U⟩;rw[World.size_alloc]at U;rw[hv]))
  go_ret
  have hz:=U.size
  rw[World.size_alloc]at hz
  exact⟨by rw[HV.out];rfl,((A _).trans (U.mono (Nat.le_succ _))).alloc OC _⟩
 | true =>
  have M:Dl ns=true:=by rw[Im,hv]
  revert R
  generalize ns.length=nn
  intro R
  go_enter func5,ntmps5
  go_wp2_with (go_at_call 13;(refine(R.out _).mono ?_;rintro e E ⟨⟨G,q,cx,rfl,D⟩,U⟩;rw[World.size_alloc]at U;rw[hv]))
  obtain⟨t,P,m,hP,L⟩:=D hv
  clear D R
  have hz:=U.size
  rw[World.size_alloc]at hz
  have af:Below w.heap.size w E:=(A _).trans (U.mono (Nat.le_succ _))
  obtain⟨Z,hZ⟩:∃ Z,(E.alloc (.cells #[.slice G q cx] 40)).alloc (.cells #[.pointer none,.slice none 0 0] 47)=Z:=⟨_,rfl⟩
  obtain⟨g,hg⟩:∃ g,E.heap.size+1=g:=⟨_,rfl⟩
  have ae:Below E.heap.size E Z:=by rw[<- hZ];exact(OP E _).alloc OF _
  have Y:Below w.heap.size w Z:=af.trans (ae.mono OC)
  have ab:Ao g [] Z:=by
   rw[<- hZ,<- hg]
   have h:=Lib.fresh_isBuilder 47 5 (E.alloc (.cells #[.slice G q cx] 40))
   rw[World.size_alloc]at h
   exact Lib.IsBuilderF.of h
  have S:∀ k,P k->k < g:=fun k hk=>by have:=hP k hk;omega
  have p:Ba P Z t (.iface 40 (.agg #[.slice G q cx])):=Ba.below (fun _ h=>h) (fun k hk=>ae.block k (hP k hk)) t _ L
  have ad:E0 g Z:=(HT.out.below Y).up OC
  have ak:∀ w2,Below g Z w2->Lib.TabIs prog w2 "internal/strconv.uint64pow10" .u64 Lib.pow10Tab:=fun w2 h2=>HP.out w2 (Y.trans (h2.mono OC))
  have l:Jk t:=by
   have h:=X5 ns [] [t] m HX.out (by rw[He];trivial)
   exact J8 [t] h t OF
  obtain⟨ap,W⟩:t.nd.kind=24/\t.high<=60:=by
   have h:=hv
   simp only[Bj,m,Bool.and_eq_true,beq_iff_eq,decide_eq_true_eq]at h
   exact h.2
  have s:Dd ns=if (Ej t).length<=12000 then ⟨(Ej t).toArray⟩ else ⟨#[]⟩:=by
   rw[Dd,if_pos M,m]
  obtain⟨b,y,I,ah,X⟩:∃ b:List C4,b.length=q/\(∀ w2,Below g Z w2->∀ j (h:j < b.length),∃ r,G=some (OK r 0)/\w2.cell? (OK r (j * 4))=some (.string b[j].name)/\w2.cell? (OK r (j * 4+1))=some (.int .i64 b[j].result)/\w2.cell? (OK r (j * 4+2))=some b[j].sp/\w2.cell? (OK r (j * 4+3))=some b[j].sb)/\(∀ j (h:j < b.length) (h':j < t.kids.length),Ya g Z b[j] (Mz t.kids[j]).data.toList)/\t.kids.length=b.length/\1<=b.length/\b.length<=60:=by
   obtain⟨d,ks⟩:=t
   have H:d.kind=24:=ap
   rw[Jk]at l
   rw[Ba]at p
   obtain⟨us,⟨_,_,x,hx,hI⟩,hK,_,_,ac⟩:=p
   have hl:=An.len ks us ac
   obtain⟨b,SF,rfl,hS,rfl⟩:∃ (b:List C4) (SF:Value),us=b.map F8/\Bk P Z SF b.length (b.flatMap (fun f=>[.string f.name,.int .i64 f.result,f.sp,f.sb]))/\x = .agg #[SF]:=by
    have:=hI;simp only[Az,H]at this;simpa using this
   have av:SF = .slice G q cx:=by
    injection hx with _ e2
    injection e2 with e3
    have e4:[Value.slice G q cx]=[SF]:=congrArg Array.toList e3
    injection e4 with e5
    exact e5.symm
   subst av
   have y:b.length=q:=by
    obtain⟨a2,c2,he,_⟩:=hS
    injection he with _ e2
    exact e2.symm
   rw[List.length_map]at hl
   have K:=l.2.1
   rw[H]at K
   have V:((∀ t ∈ ks,t.nd.kind=23)/\1<=ks.length)/\ks.length<=60:=by simpa[Ac]using K
   rw[Aa.high]at W
   refine⟨b,y,fun w2 h2 j hj => ?_,fun j hj hj' => ?_,hl.symm,by omega,by omega⟩
   ·obtain⟨r,uc,he,h0,h1,h3,h4⟩:=Qmd S hS h2 j hj
    injection he with e1
    exact⟨r,e1,h0,h1,h3,h4⟩
   ·have F:j < ks.length:=hj'
    obtain⟨u,hu,hr⟩:=An.at ks _ ac j F
    rw[List.getElem?_map,List.getElem?_eq_getElem hj]at hu
    have a3:F8 b[j]=u:=by simpa using hu
    rw[<- a3]at hr
    have bd:=I8 ks j F
    exact Qke g Z P S ad ak ks[j] b[j] (J8 ks l.2.2.2 _ (List.getElem_mem F)) (V.1.1 _ (List.getElem_mem F)) hr OC
  have HC:Hid (∀ w2,Below g Z w2->∀ j (h:j < b.length),∃ r,G=some (OK r 0)/\w2.cell? (OK r (j * 4))=some (.string b[j].name)/\w2.cell? (OK r (j * 4+1))=some (.int .i64 b[j].result)/\w2.cell? (OK r (j * 4+2))=some b[j].sp/\w2.cell? (OK r (j * 4+3))=some b[j].sb):=I
  have N:Hid (∀ j (h:j < b.length) (h':j < t.kids.length),Ya g Z b[j] (Mz t.kids[j]).data.toList):=ah
  have am:Hid (b.length=q):=y
  have O:Hid (t.kids.length=q):=by rw[Hid,X.1,y]
  have a1:1<=q/\q<=60:=by rw[<- y];exact X.2
  have Q:Hid (Dd ns=if (Ej t).length<=12000 then ⟨(Ej t).toArray⟩ else ⟨#[]⟩):=s
  have aa:Hid (g < Z.heap.size):=ab.lt
  clear p L S ad ak l I ah y X s M hP m
  rw[hZ,hg]
  go_loopw [18] (fun i wr => ∃ (j:Nat) (z:List UInt8),i = .int .i64 (j:Int)/\j<=q/\Ao g z wr/\Ax [] (If t j) z/\Am g Z wr) (fun i _=>q - (intOf i).toNat)
  case atStart=>exact⟨0,[],rfl,by omega,ab,(Ax.nil OF).eq (by simp[If]),Am.refl g Z⟩
  case round =>
   obtain⟨j,z,rfl,hj,hA,hD,hF⟩:=hrel
   have az:=hD.2.2.2
   by_cases hjn:j < q
   ·have ai:j < b.length:=by rw[am.out];exact hjn
    have aj:j < t.kids.length:=by rw[O.out];exact hjn
    obtain⟨r,rfl,q0,q1,q2,q3⟩:=HC.out wr hF.1 j ai
    have ag:=N.out j ai aj
    have HD:Hid (Ax [] (If t j) z):=hD
    have HS:Hid (If t j++(Mz t.kids[j]).data.toList=If t (j+1)):=(Qbk t j aj).symm
    generalize (Mz t.kids[j]).data.toList=T at *
    generalize b[j]=f at *
    have al:Hid (Ya g Z f T):=ag
    obtain⟨ao,a5,a9,bb,ba,a6,a8,a7⟩:=f
    simp only[C4.sp,C4.sb]at q0 q1 q2 q3
    have bc:=hA.lt
    have ay:=aa.out
    clear ag hD HC N
    go_wp2_with (go_at_call 14;refine(al.out _ z (hF.alloc OC _).1 az (hA.alloc _)).mono ?_;rintro e w3 ⟨l3,rfl,aq,ar,au⟩)
    go_roundw
    case rel=>exact⟨j+1,l3,by go_num,by omega,aq,(HD.out.trans ar).eq HS.out,(hF.alloc OC _).trans au⟩
    case measure=>simp[intOf];omega
   ·have HD:Hid (Ax [] (Ej t) z):=hD.eq (Qdj t j (by rw[O.out];omega))
    have ay:=aa.out
    have J:Below w.heap.size w wr:=Y.trans (hF.1.mono OC)
    clear hD HC N
    by_cases hf:12000 < z.length
    ·have HV:Hid (Dd ns=⟨#[]⟩):=by
      rw[Hid,Q.out,if_neg]
      intro B
      have:=HD.out.2.1 (by simpa using B)
      rw[this]at hf
      simp at hf
      omega
     go_wp2_with (go_at_call 15;refine(F5 true g z OC (decide_eq_true hf) _ hA).mono ?_;rintro e w3 ⟨rfl,rfl⟩)
     go_ret
     exact⟨by rw[HV.out];rfl,J⟩
    ·have B:(Ej t).length<=12000:=by
      apply Decidable.byContradiction
      intro h
      exact hf (HD.out.2.2.1 OH)
     have C:z=Ej t:=by
      have:=HD.out.2.1 (by simpa using B)
      rw[this];rfl
     have HV:Hid (Dd ns=⟨z.toArray⟩):=by rw[Hid,Q.out,if_pos B,C]
     have a0:z≠[]:=by
      rw[C]
      intro h0
      have hk:0 < t.kids.length:=by rw[O.out];omega
      have h1:=Qpn t.kids[0]
      apply h1
      have h2:(Mz t.kids[0]).data.toList ⊆ Ej t:=fun c hc=>List.mem_flatMap.2 ⟨_,List.getElem_mem hk,hc⟩
      rw[h0]at h2
      exact List.eq_nil_of_subset_nil h2
     clear C B Q
     go_wp2_with (first
      | (go_at_call 15;refine(F5 false g z OC (decide_eq_false hf) _ hA).mono ?_;rintro e w3 ⟨rfl,rfl⟩)
      | (go_at_call 16;refine(Qaw 47 g g z _ hA a0).mono ?_;rintro e w4 ⟨rfl,aw,_⟩))
     go_ret
     exact⟨by rw[HV.out];rfl,J.trans (aw.mono OC)⟩
def Gx (b:Int):Int:=if 0<=F9 b then F9 b else 0
theorem R7 {b x:Int} {ok:Bool} (h:x=Gx b/\ok=decide (0<=F9 b)):Ending.returned (.tuple #[.int .u8 x,.bool ok]) = .returned (.tuple #[.int .u8 (Gx b),.bool (decide (0<=F9 b))]):=by rw[h.1,h.2]
theorem Qgr {b:Int} (h1:48<=b) (h2:b<=57):b - 48=Gx b/\true=decide (0<=F9 b):=by
 have:F9 b=b - 48:=by unfold F9;rw[if_pos ⟨h1,h2⟩]
 rw[Gx,this,if_pos OC];simp;omega
theorem Qgs {b:Int} (h1:97<=b) (h2:b<=102):b - 97+10=Gx b/\true=decide (0<=F9 b):=by
 have:F9 b=b - 97+10:=by unfold F9;rw[if_neg OC,if_pos ⟨h1,h2⟩]
 rw[Gx,this,if_pos OC];simp;omega
theorem Qi6 {b:Int} (h1:¬ (48<=b/\b<=57)) (h2:¬ (97<=b/\b<=102)):0=Gx b/\false=decide (0<=F9 b):=by
 have:F9 b = -1:=by unfold F9;rw[if_neg h1,if_neg h2]
 rw[Gx,this];simp
theorem hexDigit_any (b:Int) (h0:0<=b) (h1:b<=255) (w:World) :
  Calls prog 181 #[.int .u8 b] w fun e w'=>e = .returned (.tuple #[.int .u8 (Gx b),.bool (decide (0<=F9 b))])/\w=w':=by
 go_enter func181,ntmps181;go_wp2;all_goals go_ret2
 ·exact⟨R7 (Qgr OG OG),rfl⟩
 ·exact⟨R7 (Qgs OG OG),rfl⟩
 all_goals exact⟨R7 (Qi6 OC OC),rfl⟩
theorem hexDigit_byte (c:UInt8) (w:World) :
  Calls prog 181 #[.int .u8 (c.toNat:Int)] w fun e w'=>e = .returned (.tuple #[.int .u8 (Gx (c.toNat:Int)),.bool (decide (0<=Br c))])/\w=w' :=
 hexDigit_any _ OC (by have:=c.toNat_lt;omega) w
def Kq (s:ByteArray):Bool:=match s.data.toList with
 | a::b::_=>decide (0<=Br a) && decide (0<=Br b)
 | _=>false
def J7 (s:ByteArray):Int:=match s.data.toList with
 | a::b::_=>16 * Br a+Br b
 | _=>0
theorem readByte_no (s:ByteArray) (w:World) (h:Kq s=false) :
  Calls prog 153 #[.string s] w fun e w'=>e = .returned (.tuple #[.int .u8 0,.bool false])/\w=w':=by
 by_cases h2:2<=s.size
 ·have a:=Bx s 0 OC;have b:=Bx s 1 OC;simp only[List.drop_zero,Nat.zero_add]at a;rw[b]at a;rw[Kq,a]at h;simp only at h;cases hA:decide ((0:Int)<=Br s[0]) <;> cases hB:decide ((0:Int)<=Br s[1])
  all_goals try (exfalso;simp[hA,hB]at h;done)
  all_goals
   clear h a b;go_enter func153,ntmps153;go_wp2_with (go_at_call 181;refine(hexDigit_byte _ _).mono ?_;rintro e w' ⟨rfl,rfl⟩;first|rw[hA]|rw[hB]);go_ret2;exact⟨rfl,rfl⟩
 ·clear h;go_enter func153,ntmps153;go_wp2;go_ret2;exact⟨rfl,rfl⟩
theorem or_hex (a b:Int) (ha:0<=a) (ha2:a<=15) (hb:0<=b) (hb2:b<=15):bits BinOp.or IntKind.u8 (a * 16) b=16 * a+b:=by
 obtain⟨m,rfl⟩:=Int.eq_ofNat_of_zero_le ha;obtain⟨n,rfl⟩:=Int.eq_ofNat_of_zero_le hb;have h:∀ m:Fin 16,∀ n:Fin 16,bits BinOp.or IntKind.u8 ((m.val:Int) * 16) (n.val:Int)=16 * (m.val:Int)+(n.val:Int):=by decide +kernel
 exact h ⟨m,by omega⟩ ⟨n,by omega⟩
theorem Qjd {x y:Int} (h:x=y):Ending.returned (.tuple #[.int .u8 x,.bool true]) = .returned (.tuple #[.int .u8 y,.bool true]):=by rw[h]
theorem readByte_yes (s:ByteArray) (w:World) (h:Kq s=true) :
  Calls prog 153 #[.string s] w fun e w'=>e = .returned (.tuple #[.int .u8 (J7 s),.bool true])/\w=w':=by
 have t:2<=s.size:=by
  rw[Kq]at h;split at h
  ·rename_i a b r hl
   have:s.data.toList.length=(a::b::r).length:=(by rw[hl]);simp at this;omega
  ·simp at h
 have c:=Bx s 0 OC;have d:=Bx s 1 OC;simp only[List.drop_zero,Nat.zero_add]at c;rw[d]at c;rw[Kq,c]at h;simp only at h;have o:Hid ((16:Int) * Br s[0]+Br s[1]=J7 s):=by rw[Hid,J7,c]
 rw[Bool.and_eq_true]at h;obtain⟨k,l⟩:=h;have f:=of_decide_eq_true k;have g:=of_decide_eq_true l;have p:Br s[0]<=15:=(Qk (s[0].toNat:Int)).2;have q:Br s[1]<=15:=(Qk (s[1].toNat:Int)).2;have i:Gx (s[0].toNat:Int)=Br s[0]:=by rw[Gx,if_pos (show (0:Int)<=F9 (s[0].toNat:Int) from f)];rfl
 have j:Gx (s[1].toNat:Int)=Br s[1]:=by rw[Gx,if_pos (show (0:Int)<=F9 (s[1].toNat:Int) from g)];rfl
 have m:Hid (Gx (s[0].toNat:Int)=Br s[0]):=i;have n:Hid (Gx (s[1].toNat:Int)=Br s[1]):=j;clear c d i j;go_enter func153,ntmps153;go_wp2_with (go_at_call 181;refine(hexDigit_byte _ _).mono ?_;rintro e w' ⟨rfl,rfl⟩;first|(rw[k,m.out])|(rw[l,n.out]));go_ret2;exact⟨Qjd ((or_hex _ _ f p g q).trans o.out),rfl⟩
def A3 (p:Ab):Value:=.agg #[.int .i64 p.kind,.string (Aj p.text),.int .i64 p.type,.int .i64 p.n,.int .i64 0,.int .i64 (p.size:Int),.int .i64 p.code]
theorem Clone_any (s:ByteArray) (w:World) (hs:s.size<=1048576) :
  Calls prog 119 #[.string s] w fun e w'=>e = .returned (.string s)/\Below w.heap.size w w':=by
 go_enter func119,ntmps119;go_wp2_with (go_at_call 150;refine(Tryz.stringslite_Clone _ _ OC).mono ?_;rintro e b ⟨rfl,a⟩);go_ret;exact⟨rfl,a⟩
def H5 : List (List UInt8):=[[45,62],[61,61],[33,61],[60,61],[62,61],[60,60],[62,62],[38,38],[124,124]]
def Hw : List UInt8:=[40,41,123,125,44,59,61,60,62,43,45,42,47,37,38,124,94,33,126]
theorem Q8 : Dt=H5++Hw.map (fun c=>[c]):=by decide
def Gk (l:List UInt8):Nat:=(Fl l).size
theorem Qeh (l:List UInt8):Fl l=if Gk l=0 then Bi 2 else ⟨5,l.take (Gk l),0,0,Gk l,0⟩:=by
 unfold Gk Fl;cases h:Dt.find? (Cy l) with
 | none=>rfl
 | some m =>
  have b:=Ve m (List.mem_of_find?_eq_some h);have a:=List.find?_some h;simp[Cy]at a;simp only;rw[if_neg OC,a.2]
theorem Qcg (l:List UInt8) (h2:2<=l.length) (hm:l.take 2 ∈ H5):Gk l=2:=by
 have c:∀ m ∈ H5,m.length=2:=by decide
 have a:∃ m,H5.find? (Cy l)=some m:=by
  cases h:H5.find? (Cy l) with
  | some m=>exact⟨m,rfl⟩
  | none =>
   have:=List.find?_eq_none.1 h _ hm;simp[Cy,h2]at this
 obtain⟨m,a⟩:=a;have b:=c m (List.mem_of_find?_eq_some a);rw[Gk,Fl,Q8,List.find?_append,a];exact b
theorem S4 (c:UInt8) (r:List UInt8):∀ q:List UInt8,(q.map (fun c=>[c])).find? (Cy (c::r))=if c ∈ q then some [c] else none
 | []=>by simp
 | a::q=>by
  rw[List.map_cons,List.find?_cons]
  have d:Cy (c::r) [a]=(c == a):=by simp[Cy]
  rw[d]
  by_cases h:c=a
  ·subst h;simp
  ·have b:(c == a)=false:=by simpa using h
   rw[b,S4 c r q]
   simp[h]
theorem Ze (c:UInt8) (r:List UInt8) (h:2<=(c::r).length->(c::r).take 2 ∉ H5):Gk (c::r)=if c ∈ Hw then 1 else 0:=by
 have f:H5.find? (Cy (c::r))=none:=by
  rw[List.find?_eq_none];intro m b a;have g:∀ m ∈ H5,m.length=2:=by decide
  have d:=g m b;simp only[Cy,Bool.and_eq_true,decide_eq_true_eq,d,beq_iff_eq]at a;exact h a.1 (by rw[a.2];exact b)
 rw[Gk,Fl,Q8,List.find?_append,f,Option.none_or,S4];split <;> rename_i a
 ·split at a
  ·rename_i hc;simp at a;rw[<- a,if_pos hc];rfl
  ·simp at a
 ·split at a
  ·simp at a
  ·rename_i hc;rw[if_neg hc];rfl
theorem Qep (c:UInt8):decide (0<=Lib.indexByte Hw c)=decide (c ∈ Hw):=by
 rw[<- Lib.contains_iff_indexByte];simp
theorem markSize_two (s:ByteArray) (w:World) (h2:2<=s.size) (hm:s.data.toList.take 2 ∈ H5) :
  Calls prog 123 #[.string s] w fun e w'=>e = .returned (.int .i64 2)/\w=w':=by
 have a:(s.extract 0 2).toList=s.data.toList.take 2:=by rw[ByteArray.toList_eq,Lib.extract_data];simp
 generalize s.data.toList.take 2=two at *;simp only[H5,List.mem_cons,List.not_mem_nil,or_false]at hm;rcases hm with rfl|rfl|rfl|rfl|rfl|rfl|rfl|rfl|rfl
 all_goals
  go_enter func123,ntmps123;go_wp2;go_ret;exact⟨rfl,rfl⟩
theorem Qb7 (c:UInt8):((c.toNat:Int)).toNat.toUInt8=c:=by simp
theorem shortIx_calls (c:UInt8) (w:World):Calls prog 82 #[.string ⟨#[40,41,123,125,44,59,61,60,62,43,45,42,47,37,38,124,94,33,126]⟩,.int .u8 (c.toNat:Int)] w fun e w'=>e = .returned (.int .i64 (Lib.indexByte Hw c))/\w=w':=by
 refine(Tryz.strings_IndexByte _ _ w).mono ?_;rintro e w' ⟨rfl,rfl⟩;exact⟨by rw[Qb7];rfl,rfl⟩
theorem DdScanSx102 {P:Prop} (h:P:=by
 by_cases hc:s[0] ∈ Hw
 ·rw[if_pos hc]
  have c:0<=I:=by simpa[hc]using a
  clear a hc
  go_enter func123,ntmps123
  go_wp2_with (go_at_call 82;refine(shortIx_calls _ _).mono ?_;rintro e w' ⟨rfl,rfl⟩;rw[b.out])
  go_ret
  exact⟨rfl,rfl⟩
 ·rw[if_neg hc]
  have c:I < 0:=by simpa[hc]using a
  clear a hc
  go_enter func123,ntmps123
  go_wp2_with (go_at_call 82;refine(shortIx_calls _ _).mono ?_;rintro e w' ⟨rfl,rfl⟩;rw[b.out])
  go_ret
  exact⟨rfl,rfl⟩
 ):P:=h
theorem markSize_short (s:ByteArray) (w:World) (h1:1<=s.size) (hn:2<=s.size->s.data.toList.take 2 ∉ H5) :
  Calls prog 123 #[.string s] w fun e w'=>e = .returned (.int .i64 (if s[0] ∈ Hw then 1 else 0))/\w=w':=by
 have a:=Qep s[0];obtain⟨I,b⟩:∃ I,Hid (Lib.indexByte Hw s[0]=I):=⟨_,(rfl:Lib.indexByte Hw s[0]=_)⟩;rw[b.out]at a;by_cases h2:2<=s.size
 ·have d:(s.extract 0 2).toList=s.data.toList.take 2:=by rw[ByteArray.toList_eq,Lib.extract_data];simp
  replace hn:=hn h2;generalize s.data.toList.take 2=two at *;have f:(two == [45,62])=false:=by simp;intro e;exact hn (by rw[e];decide)
  have g:(two == [61,61])=false:=by simp;intro e;exact hn (by rw[e];decide)
  have i:(two == [33,61])=false:=by simp;intro e;exact hn (by rw[e];decide)
  have j:(two == [60,61])=false:=by simp;intro e;exact hn (by rw[e];decide)
  have k:(two == [62,61])=false:=by simp;intro e;exact hn (by rw[e];decide)
  have l:(two == [60,60])=false:=by simp;intro e;exact hn (by rw[e];decide)
  have m:(two == [62,62])=false:=by simp;intro e;exact hn (by rw[e];decide)
  have n:(two == [38,38])=false:=by simp;intro e;exact hn (by rw[e];decide)
  have o:(two == [124,124])=false:=by simp;intro e;exact hn (by rw[e];decide)
  clear hn;exact DdScanSx102
 ·clear hn;exact DdScanSx102
theorem Qcf (s:ByteArray) (h:1<=s.size):s.data.toList=s[0]::s.data.toList.drop 1:=by
 have:=Bx s 0 OC;simpa using this
theorem markSize_any (s:ByteArray) (w:World) (h1:1<=s.size) :
  Calls prog 123 #[.string s] w fun e w'=>e = .returned (.int .i64 (Gk s.data.toList:Int))/\w=w':=by
 by_cases h:2<=s.size/\s.data.toList.take 2 ∈ H5
 ·rw[Qcg _ (by simpa using h.1) h.2];exact markSize_two s w h.1 h.2
 ·have d:2<=s.size->s.data.toList.take 2 ∉ H5:=fun a b=>h ⟨a,b⟩
  have e:(Gk s.data.toList:Int)=if s[0] ∈ Hw then 1 else 0:=by
   have c:=Qcf s h1;have:=Ze s[0] (s.data.toList.drop 1) (by rw[<- c];intro f;exact d (by simpa using f));rw[<- c]at this;rw[this];split <;> rfl
  rw[e];exact markSize_short s w h1 d
end Go.Proofs.YtjlaedokfbcbpaaGreatDoor
namespace Go.Proofs.YtjlaedokfbcbpaaGreatDoor
open Proofs.Tryz
open Go.RowKit Go.Maps Go.WideMaps
theorem Qei (l:List UInt8):Gk l<=l.length:=by
 unfold Gk Fl;cases h:Dt.find? (Cy l) with
 | none=>simp[Bi]
 | some m =>
  have a:=List.find?_some h;simp[Cy]at a;exact a.1
theorem Ht {w w1:World} (B:Nat) (hB:B<=w.heap.size) (o:Obj) (hb:Below (w.alloc o).heap.size (w.alloc o) w1) (c0 c1 c2 c3 c4 c5 c6:Value) :
  Below B w (((((((w1.setCell (OK w.heap.size 0) c0).setCell (OK w.heap.size 1) c1).setCell (OK w.heap.size 2) c2).setCell (OK w.heap.size 3) c3).setCell (OK w.heap.size 4) c4).setCell (OK w.heap.size 5) c5).setCell (OK w.heap.size 6) c6) :=
 ((Qi2 B hB o hb c0 c1 c2 c3 c4).setCell (p:=(OK w.heap.size 5)) hB _).setCell (p:=(OK w.heap.size 6)) hB _
theorem readMark_any (s:ByteArray) (w:World) (h1:1<=s.size) (hs:s.size<=1048576) :
  Calls prog 88 #[.string s] w fun e w'=>e = .returned (A3 (Fl s.data.toList))/\Below w.heap.size w w':=by
 have b:=Qei s.data.toList;simp at b;have a:=Qeh s.data.toList;obtain⟨n,c⟩:∃ n,Hid (Gk s.data.toList=n):=⟨_,(rfl:Gk s.data.toList=_)⟩;rw[c.out]at b a;by_cases h0:n=0
 ·subst h0;rw[if_pos rfl]at a;have d:Hid (A3 (Fl s.data.toList)=A3 (Bi 2)):=by rw[Hid,a]
  clear a;go_enter func88,ntmps88;go_wp2_with (go_at_call 123;refine(markSize_any _ _ h1).mono ?_;rintro e w' ⟨rfl,rfl⟩;rw[c.out]);refine bodyPost_ret (v:=A3 (Bi 2)) (by simp[results,results88,go_sem,A3,Bi,Aj]) rfl ⟨Fz d.out.symm,OP w _⟩
 ·rw[if_neg h0]at a;have d:Hid (A3 (Fl s.data.toList) = .agg #[.int .i64 5,.string (s.extract 0 n),.int .i64 0,.int .i64 0,.int .i64 0,.int .i64 (n:Int),.int .i64 0]):=by
   rw[Hid,a,Ik];simp[A3]
  have i:((n:Int) == 0)=false:=by simp;omega
  have g:(s.extract 0 n).size<=1048576:=by rw[Ik,Lf];simp;omega
  clear a;go_enter func88,ntmps88;go_wp2_with (first
   | (go_at_call 123;refine(markSize_any _ _ h1).mono ?_;rintro e w' ⟨rfl,rfl⟩;rw[c.out])
   | (go_at_call 119;refine(Clone_any _ _ g).mono ?_;rintro e l ⟨rfl,f⟩;obtain⟨h,k⟩:=Eu f;have j:=f.size;simp at j))
  refine bodyPost_ret (v:=.agg #[.int .i64 5,.string (s.extract 0 n),.int .i64 0,.int .i64 0,.int .i64 0,.int .i64 (n:Int),.int .i64 0]) (by simp[results,results88,go_sem,h]) rfl ⟨Fz d.out.symm,Ht _ ON _ f _ _ _ _ _ _ _⟩
end Go.Proofs.YtjlaedokfbcbpaaGreatDoor
namespace Go.Proofs.YtjlaedokfbcbpaaGreatDoor
open Proofs.Tryz
open Go.RowKit Go.Maps Go.WideMaps
theorem Fv {H:Type} {P:Program} {k:TypeId} {R:Value->Option (DataW H × List MemPlace)} {b n:Nat} {D:DataW H} {w w':World} (h:w.ownsMap P k R b n D) (hb:Below w.heap.size w w'):w'.ownsMap P k R b n D:=by
 have c:=h.lt;obtain⟨d,a,f,rest⟩:=h;exact⟨d,a,(hb.block b c).trans f,rest⟩
theorem Qcq (k:List UInt8) (h:Dk (Aj k)=true):k.length<=30:=by
 rw[Pv]at h;have:∀ x ∈ Fd.map Prod.fst,x.length<=30:=by decide
 exact this k h
def M8 (w:World) (b:Nat):Prop:=w.ownsMap prog 9 (plainElem prog 3) b 35 Hc
theorem Qcu (s:ByteArray):D5 s 0=(A5 s.data.toList).length:=by simp[D5]
theorem Vl (s:ByteArray):s.extract 0 (D5 s 0)=Aj (A5 s.data.toList):=by
 have:=Qg7 s 0 (D5 s 0) OC;simpa using this
theorem readName_any (s:ByteArray) (b:Nat) (w:World) (hs:s.size<=1048576) (hM:M8 w b) :
  Calls prog 84 #[.string s,.map (some b)] w fun e w'=>e = .returned (A3 (F1 (A5 s.data.toList)))/\Below w.heap.size w w':=by
 have q:=Sf s 0;have a:=Vl s;have d:=Qcu s;obtain⟨n,o⟩:∃ n,Hid (D5 s 0=n):=⟨_,(rfl:D5 s 0=_)⟩;rw[o.out]at q a d;obtain⟨W,l⟩:∃ W,Hid (A5 s.data.toList=W):=⟨_,(rfl:A5 s.data.toList=_)⟩;rw[l.out]at a d;have A:=hM.lt;by_cases h30:30 < n
 ·have y:¬ Dk (Aj W)=true:=fun h=>by have:=Qcq W h;omega
  have i:Hid (A3 (F1 (A5 s.data.toList))=A3 (Bi 5)):=by rw[Hid,l.out,F1,if_neg y,if_pos OC]
  clear a d y;go_enter func84,ntmps84;go_wp2_with (go_at_call 103;refine(wordSize_any _ _ hs).mono ?_;rintro e E ⟨rfl,f⟩;rw[o.out];obtain⟨m,B⟩:=Eu f;have u:=f.size;simp at u);refine bodyPost_ret (v:=A3 (Bi 5)) (by simp[results,results84,go_sem,m,A3,Bi,Aj]) rfl ⟨Fz i.out.symm,Ht _ ON _ f _ _ _ _ _ _ _⟩
 ·have t:(s.extract 0 n).size<=1048576:=by rw[a,Lf];omega
  have r:(s.extract 0 n).size<=maxLen:=by unfold maxLen;omega
  have k:(s.extract 0 n).data.toList=W:=by rw[a];rfl
  have x:Hid (Maps.has Hc (.string (s.extract 0 n).data.toList)=Dk (Aj W)):=by rw[Hid,k];exact Py W
  cases htk:Dk (Aj W)
  all_goals
   first
   | (have i:Hid (A3 (F1 (A5 s.data.toList)) = .agg #[.int .i64 2,.string (s.extract 0 n),.int .i64 0,.int .i64 0,.int .i64 0,.int .i64 (n:Int),.int .i64 0]):=by rw[Hid,l.out,F1,if_pos htk,A3,<- a,d])
   | (have i:Hid (A3 (F1 (A5 s.data.toList)) = .agg #[.int .i64 1,.string (s.extract 0 n),.int .i64 0,.int .i64 0,.int .i64 0,.int .i64 (n:Int),.int .i64 0]):=by rw[Hid,l.out,F1,if_neg (by simp[htk]),if_neg OC,A3,<- a,d])
   rw[htk]at x;clear a d k htk;go_enter func84,ntmps84;go_wp2_with (first
    | (go_at_call 103;refine(wordSize_any _ _ hs).mono ?_;rintro e E ⟨rfl,f⟩;rw[o.out];have u:=f.size;simp at u;have p:=Fv (hM.alloc _) f)
    | (at_lookup;refine wpList_lookup_own_ok_int _ rfl _ _ 82 rfl 9 3 .i64 Tryz.lawStr underlying82 underlying3 (Tryz.zeroInt _) b 35 _ rfl p _ _ rfl (keyOf_string_mk underlying9 r) ?_;intro c z C;rw[x.out])
    | (go_at_call 119;refine(Clone_any _ _ t).mono ?_;rintro e F ⟨rfl,j⟩;have g:=f.trans (j.mono (B':=(w.alloc _).heap.size) OH);obtain⟨m,B⟩:=Eu g;have D:=j.size))
   first
   | (refine bodyPost_ret (v:=.agg #[.int .i64 2,.string (s.extract 0 n),.int .i64 0,.int .i64 0,.int .i64 0,.int .i64 (n:Int),.int .i64 0]) (by simp[results,results84,go_sem,m]) rfl ⟨Fz i.out.symm,Ht _ ON _ g _ _ _ _ _ _ _⟩)
   | (refine bodyPost_ret (v:=.agg #[.int .i64 1,.string (s.extract 0 n),.int .i64 0,.int .i64 0,.int .i64 0,.int .i64 (n:Int),.int .i64 0]) (by simp[results,results84,go_sem,m]) rfl ⟨Fz i.out.symm,Ht _ ON _ g _ _ _ _ _ _ _⟩)
open Go.RowKit
def H9 (a:Nat) (l:List UInt8):Nat:=l.foldl (fun a c=>a * 10+(c.toNat - 48)) a
theorem Se (a:Nat):H9 a []=a:=rfl
theorem Lu (a:Nat) (c:UInt8) (r:List UInt8):H9 a (c::r)=H9 (a * 10+(c.toNat - 48)) r:=by simp only[H9,List.foldl_cons]
theorem Qaj {α:Type} (p:α->Bool) (c:α):∀ l:List α,c ∈ l.takeWhile p->p c=true
 | [],h=>by simp at h
 | a::r,h=>by
  cases ha:p a with
  | false=>simp[ha]at h
  | true =>
   simp[ha]at h
   rcases h with rfl|h
   ·exact ha
   ·exact Qaj p c r h
theorem T9 : ∀ (l:List UInt8) (a:Nat),a * 10 ^ l.length<=H9 a l
 | [],a=>by simp[Se]
 | c::r,a=>by
  have:=T9 r (a * 10+(c.toNat - 48))
  rw[Lu,List.length_cons,Nat.pow_succ]
  have h:a * (10 ^ r.length * 10)<=(a * 10+(c.toNat - 48)) * 10 ^ r.length:=by
   rw[show a * (10 ^ r.length * 10)=a * 10 * 10 ^ r.length by rw[Nat.mul_comm (10 ^ r.length) 10,Nat.mul_assoc]];exact Nat.mul_le_mul_right _ OC
  omega
theorem Qan (l:List UInt8) (a:Nat):a<=H9 a l:=by
 have:=T9 l a;have b:1<=10 ^ l.length:=Nat.one_le_pow _ _ OC;have:=Nat.mul_le_mul_left a b;omega
theorem Xn (mx:Int) (hmx:9<=mx):∀ (l:List UInt8) (a:Nat),(∀ c ∈ l,Cr c=true)->(a:Int)<=mx->Gl mx l (a:Int)=if (H9 a l:Int)<=mx then some (H9 a l:Int) else none
 | [],a,_,ha=>by rw[Gl,Se,if_pos ha]
 | c::r,a,hd,ha=>by
  have b:=Qy (hd c OF)
  have e:(a:Int) * 10+((c.toNat:Int) - 48)=((a * 10+(c.toNat - 48):Nat):Int):=OC
  by_cases h:(mx - ((c.toNat:Int) - 48)) / 10 < (a:Int)
  ·rw[Qgx _ _ _ _ h,Lu]
   have:=Qan r (a * 10+(c.toNat - 48))
   rw[if_neg OC]
  ·rw[Qja _ _ _ _ h,e,Xn mx hmx r _ (fun x hx=>hd x (by simp[hx])) OC,Lu]
theorem Pq : ∀ (l:List UInt8) (a:Nat),(∀ c ∈ l,Cr c=true)->a < 18446744073709551616->Lib.parseUint10 a l=if H9 a l < 18446744073709551616 then .ok (H9 a l) else .range
 | [],a,_,ha=>by rw[Lib.parseUint10,Se,if_pos ha]
 | c::r,a,hd,ha=>by
  have b:=Qy (hd c OF)
  have d:=Qan r (a * 10+(c.toNat - 48))
  rw[Lib.parseUint10,if_pos OC,Lu]
  by_cases h1:1844674407370955162<=a
  ·rw[if_pos h1,if_neg OC]
  ·rw[if_neg h1]
   by_cases h2:18446744073709551616<=a * 10+(c.toNat - 48)
   ·rw[if_pos h2,if_neg OC]
   ·rw[if_neg h2,Pq r _ (fun x hx=>hd x (by simp[hx])) OC]
theorem Vj (l:List UInt8):∀ c ∈ l.take (Ar l),Cr c=true:=by
 intro c a;rw[Ar,Ll]at a;exact Qaj _ _ _ a
theorem Qcr (k:List UInt8):0<=Dp (Aj k)/\Dp (Aj k)<=10:=by
 rw[Mo];repeat' split
 all_goals omega
def C9 (W:List UInt8):Int:=if Ar W < W.length then Dp (Aj (W.drop (Ar W))) else 10
def Jq (W:List UInt8):Nat:=H9 0 (W.take (Ar W))
theorem Qa6 (W:List UInt8):G8 (Aj W) (Ar W)=C9 W:=by
 unfold G8 C9;rw[Lf,Ik];have e:List.take (W.length - Ar W) (List.drop (Ar W) (Aj W).data.toList)=W.drop (Ar W):=by
  show List.take (W.length - Ar W) (List.drop (Ar W) W)=_
  rw[List.take_of_length_le OF]
 rw[e]
theorem Qz (W:List UInt8):0<=C9 W/\C9 W<=10:=by
 unfold C9;split
 ·exact Qcr _
 ·omega
theorem S5 (W:List UInt8):Mj (Aj W)=if Iq (Aj W) (Ar W) (C9 W)=true then none else if (Jq W:Int)<=Ce (C9 W) then some (C9 W,(Jq W:Int)) else none:=by
 have c:=Nn (C9 W);have a:=Xn (Ce (C9 W)) OC (W.take (Ar W)) 0 (Vj W) OC;have e:Mj (Aj W)=if Iq (Aj W) (Ar W) (G8 (Aj W) (Ar W))=true then none
  else (Gl (Ce (G8 (Aj W) (Ar W))) (W.take (Ar W)) 0).map (fun n=>(G8 (Aj W) (Ar W),n)):=rfl
 rw[e,Qa6];have b:((0:Nat):Int)=0:=rfl;rw[b]at a;rw[a];split
 ·rfl
 ·show Option.map _ (if (Jq W:Int)<=_ then some (Jq W:Int) else none)=_
  split <;> rfl
def Zb (W:List UInt8):Prop:=(1 < Ar W/\W.head? = some 48)\/C9 W < 3\/Ce (C9 W) < (Jq W:Int)
theorem Vc (W:List UInt8) (h:1<=Ar W):∃ c r,W=c::r/\Cr c=true:=by
 cases W with
 | nil=>simp[Ar]at h
 | cons c r =>
  cases hc:Cr c with
  | true=>exact⟨c,r,rfl,hc⟩
  | false=>simp[Ar,hc]at h
theorem Qef (W:List UInt8) (h:20 < Ar W) (hh:W.head? ≠ some 48):100000000000000000000<=Jq W:=by
 obtain⟨c,r,rfl,i⟩:=Vc W OC;have j:=Qy i;have b:c≠48:=by simpa using hh
 have k:49<=c.toNat:=by
  have:c.toNat≠48:=fun e=>b (UInt8.toNat_inj.1 (by simpa using e))
  omega
 have a:(List.take (Ar (c::r)) (c::r)).length=Ar (c::r):=by
  rw[List.length_take];have:=Px Cr (c::r);simp only[Ar]at *;omega
 unfold Jq;generalize hD:Ar (c::r)=D at *;obtain⟨D,rfl⟩:∃ d,D=d+1:=⟨D - 1,by omega⟩;rw[List.take_succ_cons]at a |-
 simp at a;rw[Lu];have m:=T9 (List.take D r) (0 * 10+(c.toNat - 48));have l:(List.take D r).length=D:=by simp;omega
 rw[l]at m;have g:10 ^ 20<=10 ^ D:=Nat.pow_le_pow_right OC OC;have n:1 * 10 ^ D<=(0 * 10+(c.toNat - 48)) * 10 ^ D:=Nat.mul_le_mul_right _ OC;have f:(10:Nat) ^ 20=100000000000000000000:=by decide
 omega
theorem Ko (W:List UInt8) (h:Zb W):E1 W=Bi 3:=by
 unfold E1;rw[S5];have a:(Aj W).data.toList=W:=rfl;rcases h with h|h|h
 ·rw[if_pos (by simp[Iq,a,h])]
 ·rw[if_pos (by simp[Iq];omega)]
 ·split
  ·rename_i hq;rfl
  ·rename_i t n hq
   split at hq
   ·simp at hq
   ·rw[if_neg OC]at hq;simp at hq
theorem Xi (W:List UInt8) (h:¬ Zb W):E1 W=⟨3,[],C9 W,wrap64 (Jq W:Int),W.length,0⟩:=by
 have n:=Qz W;have k:=Nn (C9 W);unfold Zb at h;have b:¬ (1 < Ar W/\W.head? = some 48):=fun a=>h (.inl a)
 have l:¬ C9 W < 3:=fun a=>h (.inr (.inl a))
 have m:¬ Ce (C9 W) < (Jq W:Int):=fun a=>h (.inr (.inr a))
 have g:¬ 20 < Ar W:=fun a=>by
  have:=Qef W a (fun e=>b ⟨by omega,e⟩);omega
 have i:(Aj W).data.toList=W:=rfl;have j:Iq (Aj W) (Ar W) (C9 W)=false:=by
  simp only[Iq,i];have c:(decide (3<=C9 W) && decide (C9 W<=10))=true:=by simp;omega
  have d:decide (20 < Ar W)=false:=by simp;omega
  have f:(decide (1 < Ar W) && (W.head? == some 48))=false:=by
   by_cases hk:1 < Ar W
   ·have:W.head? ≠ some 48:=fun e=>b ⟨hk,e⟩
    simp[hk];exact this
   ·simp[hk]
  rw[c,d,f];rfl
 unfold E1;rw[S5,j,if_neg OF,if_pos OC]
end Go.Proofs.YtjlaedokfbcbpaaGreatDoor
