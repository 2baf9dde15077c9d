import Derived.Test.YtjlaedokfbcbpaaGreatDoorKPriE
set_option maxRecDepth 100000
set_option maxHeartbeats 2000000
namespace Go.Proofs.YtjlaedokfbcbpaaGreatDoor
open Go.RowKit Proofs.Tryz
theorem Wf {P:Program} {f:FuncId} {args:Array Value} {w:World} {n:Nat} {v:Value}
  (h:Calls P f args (w.drewN n) fun e w'=>e = .returned v/\w.drewN n=w'):Calls P f args (w.drewN n) fun e w''=>e = .returned v/\∃ m,w''=w.drewN m :=
 h.mono fun _ _ ⟨he,hm⟩=>⟨he,n,hm.symm⟩
theorem F7 {B:Nat} {a w:World} (n:Nat) (h:Below B a w):Below B a (w.drewN n):=⟨h.os,h.tape,h.output,h.size,h.block⟩
theorem l1Integer_is (t:Int) (b:Bool) (h:Hid ((decide (3<=t) && decide (t<=10))=b)) (w:World) :
  Calls prog 42 #[.int .i64 t] w fun e w'=>e = .returned (.bool b)/\w=w':=by
 rw[<- h.out];exact l1Integer_any t w
theorem DdTreeCx55 {P:Prop} (h:P:=by
 go_enter func18,ntmps18
 go_wp2_with (first
  | (go_at_call 39;refine(l2Uses_any _ _).mono ?_;rintro e w' ⟨rfl,rfl⟩;rw[d.out]))
 go_ret
 exact⟨Al a.out.symm,OP w _⟩
 ):P:=h
theorem l2Fields_1 (o t n:Int) (x:ByteArray) (k:Int) (w:World) :
  Calls prog 18 #[Af ⟨1,o,t,n,x,k⟩] w fun e w'=>e = .returned (.bool (Bo ⟨1,o,t,n,x,k⟩))/\Below w.heap.size w w':=by
 have d:Hid (Ex 1 = .tuple #[.bool false,.bool true,.bool true,.bool false]):=by rw[Hid];rfl
 have g:Hid (Cs 1=false):=by rw[Hid];rfl
 simp only[Af];by_cases ho:o=0
 ·by_cases hx:x.toList.isEmpty=true
  ·have f:(!x.toList.isEmpty)=false:=(by simp[hx]);have b:(o != 0)=false:=(by simp[ho]);cases hq:(decide (3<=t) && decide (t<=10)) with
   | false =>
    have a:Hid (Bo ⟨1,o,t,n,x,k⟩=false):=(by rw[Hid,Bo,J1];simp only[if_true,hq,Bool.false_and,Bool.and_false]);have c:Hid ((decide (3<=t) && decide (t<=10))=false):=hq;clear hq;go_enter func18,ntmps18;go_wp2_with (first
     | (go_at_call 39;refine(l2Uses_any _ _).mono ?_;rintro e w' ⟨rfl,rfl⟩;rw[d.out])
     | (go_at_call 40;refine(l2Named_any _ _).mono ?_;rintro e w' ⟨rfl,rfl⟩;rw[g.out]))
    go_quiet (first|(go_at_call 42;refine Wf (l1Integer_is _ false c _)));go_wp2;go_ret;exact⟨Al a.out.symm,F7 _ (OP w _)⟩
   | true =>
    have a:Hid (Bo ⟨1,o,t,n,x,k⟩=decide (IntKind.u64.wrap n<=Ce t)):=by
     rw[Hid,Bo,J1];simp only[if_true,hq,Bool.true_and];simp[H1,Hm,F4,Ns,F3,Cs,ho,hx]
    have c:Hid ((decide (3<=t) && decide (t<=10))=true):=hq;clear hq;go_enter func18,ntmps18;go_wp2_with (first
     | (go_at_call 39;refine(l2Uses_any _ _).mono ?_;rintro e w' ⟨rfl,rfl⟩;rw[d.out])
     | (go_at_call 40;refine(l2Named_any _ _).mono ?_;rintro e w' ⟨rfl,rfl⟩;rw[g.out]))
    go_quiet (first|(go_at_call 42;refine Wf (l1Integer_is _ true c _))|(go_at_call 43;refine Wf (l1Max_any _ _)));go_wp2;go_ret;exact⟨Al a.out.symm,F7 _ (OP w _)⟩
  ·have a:Hid (Bo ⟨1,o,t,n,x,k⟩=false):=(by rw[Hid];exact Pj _ (by simp[H1,F3,Cs];intro _ _ _;simpa using hx));have f:(!x.toList.isEmpty)=true:=(by simpa using hx);have b:(o != 0)=false:=(by simp[ho]);exact DdTreeCx55
 ·have a:Hid (Bo ⟨1,o,t,n,x,k⟩=false):=by rw[Hid];exact Pj _ (by simp[H1,Hm,ho])
  have b:(o != 0)=true:=by simpa using ho
  exact DdTreeCx55
def Ps (c:Int):Prop:=c≠1/\c≠2/\c≠3/\c≠4/\c≠5/\c≠6/\c≠7/\c≠8/\c≠9/\c≠10/\c≠11/\c≠22/\c≠23
theorem l2Fields_other (c o t n:Int) (x:ByteArray) (k:Int) (w:World) (hc:Ps c) :
  Calls prog 18 #[Af ⟨c,o,t,n,x,k⟩] w fun e w'=>e = .returned (.bool (Bo ⟨c,o,t,n,x,k⟩))/\Below w.heap.size w w':=by
 obtain⟨h,i,c3,c4,c5,j,r,l,m,f,g,a,b⟩:=hc;have d:Hid (Cs c=false):=by rw[Hid];simp[Cs,c4,r,f,g,a,b]
 have q:Hid (Ex c = .tuple #[.bool false,.bool false,.bool false,.bool false]):=by rw[Hid];simp[Ex,Hm,F4,Ns,F3,d.out,h,i,c3,c5,j,l,m,a,b]
 have p:Hid (Bo ⟨c,o,t,n,x,k⟩=((o == 0) && (t == 0) && (n == 0) && x.toList.isEmpty)):=by
  rw[Hid];simp[Bo,H1,J1,Hm,F4,Ns,F3,d.out,h,i,c3,c5,j,l,m,a,b]
 simp only[Af];go_enter func18,ntmps18;go_wp2_with (first
  | (go_at_call 39;refine(l2Uses_any _ _).mono ?_;rintro e w' ⟨rfl,rfl⟩;rw[q.out])
  | (go_at_call 40;refine(l2Named_any _ _).mono ?_;rintro e w' ⟨rfl,rfl⟩;rw[d.out]))
 all_goals go_ret
 all_goals refine⟨Al ?_,OP w _⟩
 all_goals rw[p.out]
 all_goals go_light
 all_goals simp_all
theorem Qgu (c:Int):c=1\/c=2\/c=3\/c=4\/c=5\/c=6\/c=7\/c=8\/c=9\/c=10\/c=11\/c=22\/c=23\/Ps c:=by
 unfold Ps;omega
theorem l2Fields_any (d:Ae) (w:World) :
  Calls prog 18 #[Af d] w fun e w'=>e = .returned (.bool (Bo d))/\Below w.heap.size w w':=by
 obtain⟨c,o,t,n,x,k⟩:=d;rcases Qgu c with rfl|rfl|rfl|rfl|rfl|rfl|rfl|rfl|rfl|rfl|rfl|rfl|rfl|h
 ·exact l2Fields_1 o t n x k w
 ·exact l2Fields_2 o t n x k w
 ·exact l2Fields_3 o t n x k w
 ·exact l2Fields_4 o t n x k w
 ·exact l2Fields_5 o t n x k w
 ·exact l2Fields_6 o t n x k w
 ·exact l2Fields_7 o t n x k w
 ·exact l2Fields_8 o t n x k w
 ·exact l2Fields_9 o t n x k w
 ·exact l2Fields_10 o t n x k w
 ·exact l2Fields_11 o t n x k w
 ·exact l2Fields_22 o t n x k w
 ·exact l2Fields_23 o t n x k w
 ·exact l2Fields_other c o t n x k w h
def C3 (ks:List Int):List Value:=ks.map (fun x=>Value.int .i64 x)
theorem Ey {w:World} {B n:Nat} {v:Value} {ks:List Int} {e:TypeId} (h:w.ownsRow B e 1 v n (C3 ks)) (hn:ks.length=n) :
  ∃ a b,v = .slice a n b/\∀ i (hi:i < n),∃ g,a=some (OK g 0)/\B<=g/\g < w.heap.size/\w.cell? (OK g i)=some (.int .i64 (ks[i]'(hn ▸ hi))):=by
 rcases h.2 with⟨rfl,f⟩|⟨g,b,d,rfl,j,c,_⟩
 ·exact⟨none,0,by rw[f],fun i hi=>OC⟩
 ·refine⟨_,_,rfl,fun i hi=>⟨g,rfl,j,(Array.getElem?_eq_some_iff.1 c).1, ?_⟩⟩;rw[h.cellAt i OC];simp[C3,hn,hi]
theorem l2AllE_any (ks:List Int) (v:Value) (B n:Nat) (HN:Hid (ks.length=n)) (w:World) (h:w.ownsRow B 3 1 v n (C3 ks)) (hl:n<=1000000) :
  Calls prog 45 #[v] w fun e w'=>e = .returned (.bool (ks.all Ah))/\w=w':=by
 obtain⟨a,k,rfl,d⟩:=Ey h HN.out;clear h;go_enter func45,ntmps45;go_wp2;go_loop [3] (fun t => ∃ i:Nat,i<=n/\t = .int .i64 (i:Int)/\(ks.drop i).all Ah=ks.all Ah) (fun t=>n - (intOf t).toNat);case atStart=>exact⟨0,by omega,rfl,rfl⟩
 case round =>
  obtain⟨i,l,rfl,b⟩:=hrel;by_cases hlt:i < n
  ·obtain⟨g,rfl,_,_,f⟩:=d i hlt;have j:i < ks.length:=(by rw[HN.out];exact hlt);rw[List.drop_eq_getElem_cons j,List.all_cons]at b;clear d;cases hE:Ah ks[i] with
   | true =>
    have c:Hid ((ks.drop (i+1)).all Ah=ks.all Ah):=(by rw[hE]at b;exact b);clear b;generalize ks[i]=x at *;go_wp2_with (go_at_call 44;refine(l2E_any _ _).mono ?_;rintro e w' ⟨rfl,rfl⟩;rw[hE]);go_round;case rel=>exact⟨i+1,by omega,by go_num,c.out⟩
    case measure=>simp[intOf];omega
   | false =>
    have c:Hid (ks.all Ah=false):=(by rw[hE]at b;rw[Hid,<- b];rfl);clear b;generalize ks[i]=x at *;go_wp2_with (go_at_call 44;refine(l2E_any _ _).mono ?_;rintro e w' ⟨rfl,rfl⟩;rw[hE]);go_ret;exact⟨Al c.out.symm,rfl⟩
  ·have c:Hid (ks.all Ah=true):=by
    rw[List.drop_of_length_le (by rw[HN.out];omega)]at b;rw[Hid,<- b];rfl
   clear b d;go_wp2;go_ret;exact⟨Al c.out.symm,rfl⟩
def D4 (ks:List Int):Bool:=match ks with|[a]=>Ah a|_=>false
def Cd (ks:List Int):Bool:=match ks with|[a,b]=>Ah a && (b == 21)|[a,b,c]=>Ah a && (b == 21) && ((c == 21) || (c == 12))|_=>false
def Ci (ks:List Int):Bool:=match ks with|[a,b]=>Ah a && (b == 21)|_=>false
def Fu (ks:List Int):Bool:=match ks with|[a]=>(a == 7)|_=>false
def Ea (ks:List Int):Bool:=match ks.getLast? with|none=>false|some l=>(l == 21) && decide (ks.length<=9) && ks.dropLast.all (fun k=>k == 22)
def Ac (kind op:Int) (ks:List Int):Bool :=
 if kind=1\/kind=2\/kind=3\/kind=4\/kind=14\/kind=15\/kind=22 then decide (ks.length=0)
 else if kind=5\/kind=9\/kind=10\/kind=11\/kind=17\/kind=19 then D4 ks
 else if kind=6\/kind=18 then decide (ks.length=2) && ks.all Ah
 else if kind=7 then decide (ks.length<=8) && ks.all Ah
 else if kind=8 then decide ((ks.length:Int)=Bv op) && ks.all Ah
 else if kind=12 then Cd ks
 else if kind=13 then Ci ks
 else if kind=16 then decide (ks.length<=1) && ks.all Ah
 else if kind=20 then Fu ks
 else if kind=21 then ks.all Cv
 else if kind=23 then Ea ks
 else if kind=24 then ks.all (fun k=>k == 23) && decide (1<=ks.length) && decide (ks.length<=60)
 else false
theorem l2Fits_ad (kc:Int) (hkc:kc=1\/kc=2\/kc=3\/kc=4\/kc=14\/kc=15\/kc=22) (o t y:Int) (x:ByteArray) (k:Int) (ks:List Int) (v:Value) (B n:Nat) (HN:Hid (ks.length=n)) (w:World) (h:w.ownsRow B 3 1 v n (C3 ks)) (_hl:n<=1000000) :
  Calls prog 19 #[Af ⟨kc,o,t,y,x,k⟩,v] w fun e w'=>e = .returned (.bool (Ac kc o ks))/\Below w.heap.size w w':=by
 have b:Hid (Ac kc o ks=((n:Int) == 0)):=by rw[Hid,Bool.eq_iff_iff];rcases hkc with rfl|rfl|rfl|rfl|rfl|rfl|rfl <;> simp[Ac,<- HN.out]
 obtain⟨a,c,rfl,_⟩:=Ey h HN.out;clear h;simp only[Af];rcases hkc with rfl|rfl|rfl|rfl|rfl|rfl|rfl
 all_goals
  go_enter func19,ntmps19;go_wp2;go_ret;exact⟨Al b.out.symm,OP w _⟩
theorem DdTreeDx106 {P:Prop} (h:P:=by
 rcases hkc with rfl|rfl|rfl|rfl|rfl|rfl
 all_goals
  go_enter func19,ntmps19
  go_wp2_with (go_at_call 44;refine(l2E_any _ _).mono ?_;rintro e w' ⟨rfl,rfl⟩)
  go_ret
  exact⟨Al j.out.symm,OP w _⟩
 ):P:=h
theorem l2Fits_bd (kc:Int) (hkc:kc=5\/kc=9\/kc=10\/kc=11\/kc=17\/kc=19) (o t y:Int) (x:ByteArray) (k:Int) (ks:List Int) (v:Value) (B n:Nat) (HN:Hid (ks.length=n)) (w:World) (h:w.ownsRow B 3 1 v n (C3 ks)) (_hl:n<=1000000) :
  Calls prog 19 #[Af ⟨kc,o,t,y,x,k⟩,v] w fun e w'=>e = .returned (.bool (Ac kc o ks))/\Below w.heap.size w w':=by
 obtain⟨a,l,rfl,f⟩:=Ey h HN.out;clear h;by_cases h1:n=1
 ·obtain⟨g,rfl,_,p,i⟩:=f 0 OC;have m:0 < ks.length:=by rw[HN.out];omega
  have j:Hid (Ac kc o ks=Ah ks[0]):=by
   have c:=HN.out;match ks,m,c with
   | [a],_,_=>rw[Hid];rcases hkc with rfl|rfl|rfl|rfl|rfl|rfl <;> simp[Ac,D4]
   | a::b::r,_,c=>simp at c;omega
  generalize ks[0]=z at *;clear f;have d:(n:Int)=1:=OC
  simp only[Af];exact DdTreeDx106
 ·have j:Hid (Ac kc o ks=false):=by
   have c:=HN.out;match ks,c with
   | [],_=>rw[Hid];rcases hkc with rfl|rfl|rfl|rfl|rfl|rfl <;> simp[Ac,D4]
   | [a],c=>simp at c;omega
   | a::b::r,_=>rw[Hid];rcases hkc with rfl|rfl|rfl|rfl|rfl|rfl <;> simp[Ac,D4]
  clear f;have d:((n:Int) == 1)=false:=by simpa using (by omega:¬ (n:Int)=1)
  simp only[Af];exact DdTreeDx106
theorem DdTreeEx21 {P:Prop} (h:P:=by
 go_wp2_with (first|(go_at_call 45;refine(l2AllE_any ks _ B _ HN _ (h.alloc _) hl).mono ?_;rintro e w' ⟨rfl,rfl⟩))
 go_ret
 exact⟨Al c.out.symm,OP w _⟩
 ):P:=h
theorem l2Fits_ae (kc:Int) (hkc:kc=6\/kc=18) (o t y:Int) (x:ByteArray) (k:Int) (ks:List Int) (v:Value) (B n:Nat) (HN:Hid (ks.length=n)) (w:World) (h:w.ownsRow B 3 1 v n (C3 ks)) (hl:n<=1000000) :
  Calls prog 19 #[Af ⟨kc,o,t,y,x,k⟩,v] w fun e w'=>e = .returned (.bool (Ac kc o ks))/\Below w.heap.size w w':=by
 obtain⟨a,d,rfl,_⟩:=Ey h HN.out;by_cases h1:n=2
 ·have c:Hid (Ac kc o ks=ks.all Ah):=by rw[Hid];have:=HN.out;rcases hkc with rfl|rfl <;> simp[Ac,this,h1]
  subst h1;simp only[Af];rcases hkc with rfl|rfl
  all_goals
   go_enter func19,ntmps19;exact DdTreeEx21
 ·have c:Hid (Ac kc o ks=false):=by rw[Hid];have:=HN.out;rcases hkc with rfl|rfl <;> simp[Ac,this,h1]
  have b:((n:Int) == 2)=false:=by simpa using (by omega:¬ (n:Int)=2)
  clear h1;simp only[Af];rcases hkc with rfl|rfl
  all_goals
   go_enter func19,ntmps19;exact DdTreeEx21
theorem l2Fits_7 (o t y:Int) (x:ByteArray) (k:Int) (ks:List Int) (v:Value) (B n:Nat) (HN:Hid (ks.length=n)) (w:World) (h:w.ownsRow B 3 1 v n (C3 ks)) (hl:n<=1000000) :
  Calls prog 19 #[Af ⟨7,o,t,y,x,k⟩,v] w fun e w'=>e = .returned (.bool (Ac 7 o ks))/\Below w.heap.size w w':=by
 obtain⟨a,d,rfl,_⟩:=Ey h HN.out;by_cases h1:n<=8
 ·have c:Hid (Ac 7 o ks=ks.all Ah):=by rw[Hid];have:=HN.out;simp[Ac,this,h1]
  have b:(n:Int)<=8:=OC
  simp only[Af];go_enter func19,ntmps19;exact DdTreeEx21
 ·have c:Hid (Ac 7 o ks=false):=by rw[Hid];have:=HN.out;simp[Ac,this,h1]
  have b:¬ (n:Int)<=8:=OC
  simp only[Af];go_enter func19,ntmps19;exact DdTreeEx21
theorem l2Fits_16 (o t y:Int) (x:ByteArray) (k:Int) (ks:List Int) (v:Value) (B n:Nat) (HN:Hid (ks.length=n)) (w:World) (h:w.ownsRow B 3 1 v n (C3 ks)) (hl:n<=1000000) :
  Calls prog 19 #[Af ⟨16,o,t,y,x,k⟩,v] w fun e w'=>e = .returned (.bool (Ac 16 o ks))/\Below w.heap.size w w':=by
 obtain⟨a,d,rfl,_⟩:=Ey h HN.out;by_cases h1:n<=1
 ·have c:Hid (Ac 16 o ks=ks.all Ah):=by rw[Hid];have:=HN.out;simp[Ac,this,h1]
  have b:(n:Int)<=1:=OC
  simp only[Af];go_enter func19,ntmps19;exact DdTreeEx21
 ·have c:Hid (Ac 16 o ks=false):=by rw[Hid];have:=HN.out;simp[Ac,this,h1]
  have b:¬ (n:Int)<=1:=OC
  simp only[Af];go_enter func19,ntmps19;exact DdTreeEx21
theorem DdTreeEx86 {P:Prop} (h:P:=by
 go_enter func19,ntmps19
 go_wp2_with (first|(go_at_call 46;refine(l1BuiltWord_any _ _).mono ?_;rintro e w' ⟨rfl,rfl⟩)|(go_at_call 45;refine(l2AllE_any ks _ B _ HN _ (h.alloc _) hl).mono ?_;rintro e w' ⟨rfl,rfl⟩))
 go_ret
 exact⟨Al c.out.symm,OP w _⟩
 ):P:=h
theorem l2Fits_8 (o t y:Int) (x:ByteArray) (k:Int) (ks:List Int) (v:Value) (B n:Nat) (HN:Hid (ks.length=n)) (w:World) (h:w.ownsRow B 3 1 v n (C3 ks)) (hl:n<=1000000) :
  Calls prog 19 #[Af ⟨8,o,t,y,x,k⟩,v] w fun e w'=>e = .returned (.bool (Ac 8 o ks))/\Below w.heap.size w w':=by
 obtain⟨a,d,rfl,_⟩:=Ey h HN.out;by_cases h1:(n:Int)=Bv o
 ·have c:Hid (Ac 8 o ks=ks.all Ah):=by rw[Hid];have:=HN.out;simp[Ac,this,h1]
  have b:((n:Int) == Bv o)=true:=by simpa using h1
  simp only[Af];exact DdTreeEx86
 ·have c:Hid (Ac 8 o ks=false):=by rw[Hid];have:=HN.out;simp[Ac,this,h1]
  have b:((n:Int) == Bv o)=false:=by simpa using h1
  simp only[Af];exact DdTreeEx86
theorem l2Fits_20 (o t y:Int) (x:ByteArray) (k:Int) (ks:List Int) (v:Value) (B n:Nat) (HN:Hid (ks.length=n)) (w:World) (h:w.ownsRow B 3 1 v n (C3 ks)) (_hl:n<=1000000) :
  Calls prog 19 #[Af ⟨20,o,t,y,x,k⟩,v] w fun e w'=>e = .returned (.bool (Ac 20 o ks))/\Below w.heap.size w w':=by
 obtain⟨a,l,rfl,i⟩:=Ey h HN.out;clear h;by_cases h1:n=1
 ·obtain⟨g,rfl,_,p,j⟩:=i 0 OC;have m:0 < ks.length:=by rw[HN.out];omega
  have d:Hid (Ac 20 o ks=(ks[0] == 7)):=by
   have c:=HN.out;match ks,m,c with
   | [a],_,_=>rw[Hid];simp[Ac,Fu]
   | a::b::r,_,c=>simp at c;omega
  generalize ks[0]=z at *;clear i;have f:(n:Int)=1:=OC
  simp only[Af];go_enter func19,ntmps19;go_wp2;go_ret;exact⟨Al d.out.symm,OP w _⟩
 ·have d:Hid (Ac 20 o ks=false):=by
   have c:=HN.out;match ks,c with
   | [],_=>rw[Hid];simp[Ac,Fu]
   | [a],c=>simp at c;omega
   | a::b::r,_=>rw[Hid];simp[Ac,Fu]
  clear i;have f:((n:Int) == 1)=false:=by simpa using (by omega:¬ (n:Int)=1)
  simp only[Af];go_enter func19,ntmps19;go_wp2;go_ret;exact⟨Al d.out.symm,OP w _⟩
theorem l2Fits_21 (o t y:Int) (x:ByteArray) (k:Int) (ks:List Int) (v:Value) (B n:Nat) (HN:Hid (ks.length=n)) (w:World) (h:w.ownsRow B 3 1 v n (C3 ks)) (_hl:n<=1000000) :
  Calls prog 19 #[Af ⟨21,o,t,y,x,k⟩,v] w fun e w'=>e = .returned (.bool (Ac 21 o ks))/\Below w.heap.size w w':=by
 obtain⟨a,m,rfl,d⟩:=Ey h HN.out;clear h;have l:Hid (Ac 21 o ks=ks.all Cv):=by rw[Hid];simp[Ac]
 simp only[Af];go_enter func19,ntmps19;go_wp2;go_loop [8] (fun t => ∃ i:Nat,i<=n/\t = .int .i64 (i:Int)/\(ks.drop i).all Cv=ks.all Cv) (fun t=>n - (intOf t).toNat);case atStart=>exact⟨0,by omega,rfl,rfl⟩
 case round =>
  obtain⟨i,q,rfl,b⟩:=hrel;by_cases hlt:i < n
  ·obtain⟨g,rfl,_,p,f⟩:=d i hlt;have j:i < ks.length:=(by rw[HN.out];exact hlt);rw[List.drop_eq_getElem_cons j,List.all_cons]at b;clear d;cases hE:Cv ks[i] with
   | true =>
    have c:Hid ((ks.drop (i+1)).all Cv=ks.all Cv):=(by rw[hE]at b;exact b);clear b;generalize ks[i]=x at *;go_wp2_with (go_at_call 47;refine(l2S_any _ _).mono ?_;rintro e w' ⟨rfl,rfl⟩;rw[hE]);go_round;case rel=>exact⟨i+1,by omega,by go_num,c.out⟩
    case measure=>simp[intOf];omega
   | false =>
    have c:Hid (Ac 21 o ks=false):=(by rw[Hid,l.out,<- b,hE];simp);clear b;generalize ks[i]=x at *;go_wp2_with (go_at_call 47;refine(l2S_any _ _).mono ?_;rintro e w' ⟨rfl,rfl⟩;rw[hE]);go_ret;exact⟨Al c.out.symm,OP w _⟩
  ·have c:Hid (Ac 21 o ks=true):=by
    rw[List.drop_of_length_le (by rw[HN.out];omega)]at b;rw[Hid,l.out,<- b];simp
   clear b d;go_wp2;go_ret;exact⟨Al c.out.symm,OP w _⟩
theorem l2Fits_24 (o t y:Int) (x:ByteArray) (k:Int) (ks:List Int) (v:Value) (B n:Nat) (HN:Hid (ks.length=n)) (w:World) (h:w.ownsRow B 3 1 v n (C3 ks)) (_hl:n<=1000000) :
  Calls prog 19 #[Af ⟨24,o,t,y,x,k⟩,v] w fun e w'=>e = .returned (.bool (Ac 24 o ks))/\Below w.heap.size w w':=by
 obtain⟨a,p,rfl,f⟩:=Ey h HN.out;clear h;have m:Hid (Ac 24 o ks=(ks.all (fun k=>k == 23) && decide (1<=n) && decide (n<=60))):=by rw[Hid];have:=HN.out;simp[Ac,this]
 simp only[Af];go_enter func19,ntmps19;go_wp2;go_loop [10] (fun t => ∃ i:Nat,i<=n/\t = .int .i64 (i:Int)/\(ks.drop i).all (fun k=>k == 23)=ks.all (fun k=>k == 23)) (fun t=>n - (intOf t).toNat);case atStart=>exact⟨0,by omega,rfl,rfl⟩
 case round =>
  obtain⟨i,r,rfl,b⟩:=hrel;by_cases hlt:i < n
  ·obtain⟨g,rfl,_,q,j⟩:=f i hlt;have l:i < ks.length:=(by rw[HN.out];exact hlt);rw[List.drop_eq_getElem_cons l,List.all_cons]at b;clear f;cases hE:(ks[i] == 23) with
   | true =>
    have c:Hid ((ks.drop (i+1)).all (fun k=>k == 23)=ks.all (fun k=>k == 23)):=(by rw[hE]at b;exact b);clear b;generalize ks[i]=x at *;have d:(x != 23)=false:=(by simpa[bne]using hE);go_wp2;go_round;case rel=>exact⟨i+1,by omega,by go_num,c.out⟩
    case measure=>simp[intOf];omega
   | false =>
    have c:Hid (Ac 24 o ks=false):=(by rw[Hid,m.out,<- b,hE];simp);clear b;generalize ks[i]=x at *;have d:(x != 23)=true:=(by simpa[bne]using hE);go_wp2;go_ret;exact⟨Al c.out.symm,OP w _⟩
  ·have c:Hid (Ac 24 o ks=(decide (1<=n) && decide (n<=60))):=by
    rw[List.drop_of_length_le (by rw[HN.out];omega)]at b;rw[Hid,m.out,<- b];simp
   clear b f;go_wp2;all_goals go_ret
   all_goals exact⟨Al (by rw[c.out];go_light;rw[Bool.eq_iff_iff];simp;omega),OP w _⟩
theorem Qfm (ks:List Int) (h:ks.length=2):∃ a b,ks=[a,b]:=by
 match ks,h with
 | [a,b],_=>exact⟨a,b,rfl⟩
theorem Qm7 (ks:List Int) (h:ks.length=3):∃ a b c,ks=[a,b,c]:=by
 match ks,h with
 | [a,b,c],_=>exact⟨a,b,c,rfl⟩
theorem Qah (ks:List Int) (h2:ks.length≠2) (h3:ks.length≠3):Cd ks=false:=by
 unfold Cd;split
 ·simp at h2
 ·simp at h3
 ·rfl
theorem Ua (ks:List Int) (h2:ks.length≠2):Ci ks=false:=by
 unfold Ci;split
 ·simp at h2
 ·rfl
theorem l2Fits_13 (o t y:Int) (x:ByteArray) (k:Int) (ks:List Int) (v:Value) (B n:Nat) (HN:Hid (ks.length=n)) (w:World) (h:w.ownsRow B 3 1 v n (C3 ks)) (_hl:n<=1000000) :
  Calls prog 19 #[Af ⟨13,o,t,y,x,k⟩,v] w fun e w'=>e = .returned (.bool (Ac 13 o ks))/\Below w.heap.size w w':=by
 obtain⟨a,j,rfl,b⟩:=Ey h HN.out;clear h;by_cases h1:n=2
 ·subst h1;obtain⟨p,q,rfl⟩:=Qfm ks HN.out;obtain⟨g,rfl,_,m,f⟩:=b 0 OC;obtain⟨r,d,_,_,i⟩:=b 1 OC;cases d
  simp only[List.getElem_cons_zero,List.getElem_cons_succ]at f i;clear b;have c:Hid (Ac 13 o [p,q]=(Ah p && (q == 21))):=by rw[Hid];simp[Ac,Ci]
  simp only[Af];cases hE:Ah p
  all_goals
   go_enter func19,ntmps19;go_wp2_with (go_at_call 44;refine(l2E_any _ _).mono ?_;rintro e w' ⟨rfl,rfl⟩;rw[hE]);go_ret;exact⟨Al (by rw[c.out,hE];simp),OP w _⟩
 ·have c:Hid (Ac 13 o ks=false):=by rw[Hid];simp[Ac];exact Ua ks (by rw[HN.out];exact h1)
  clear b;have l:((n:Int) == 2)=false:=by simpa using (by omega:¬ (n:Int)=2)
  clear h1;simp only[Af];go_enter func19,ntmps19;go_wp2_with fail;go_ret;exact⟨Al c.out.symm,OP w _⟩
theorem l2Fits_12 (o t y:Int) (x:ByteArray) (k:Int) (ks:List Int) (v:Value) (B n:Nat) (HN:Hid (ks.length=n)) (w:World) (h:w.ownsRow B 3 1 v n (C3 ks)) (_hl:n<=1000000) :
  Calls prog 19 #[Af ⟨12,o,t,y,x,k⟩,v] w fun e w'=>e = .returned (.bool (Ac 12 o ks))/\Below w.heap.size w w':=by
 obtain⟨a,u,rfl,c⟩:=Ey h HN.out;clear h;by_cases h1:n=2
 ·subst h1;obtain⟨p,q,rfl⟩:=Qfm ks HN.out;obtain⟨g,rfl,_,l,f⟩:=c 0 OC;obtain⟨m,b,_,_,i⟩:=c 1 OC;cases b
  simp only[List.getElem_cons_zero,List.getElem_cons_succ]at f i;clear c;have d:Hid (Ac 12 o [p,q]=(Ah p && (q == 21))):=by rw[Hid];simp[Ac,Cd]
  simp only[Af];cases hE:Ah p <;> cases hq:(q == 21)
  all_goals
   go_enter func19,ntmps19;go_wp2_with (go_at_call 44;refine(l2E_any _ _).mono ?_;rintro e w' ⟨rfl,rfl⟩;rw[hE]);go_ret;exact⟨Al (by rw[d.out,hE];simp_all),OP w _⟩
 ·by_cases h2:n=3
  ·subst h2;obtain⟨p,q,r,rfl⟩:=Qm7 ks HN.out;obtain⟨g,rfl,_,l,f⟩:=c 0 OC;obtain⟨m,b,_,_,i⟩:=c 1 OC;cases b
   obtain⟨m,b,_,_,s⟩:=c 2 OC;cases b
   simp only[List.getElem_cons_zero,List.getElem_cons_succ]at f i s;clear c h1;have d:Hid (Ac 12 o [p,q,r]=(Ah p && (q == 21) && ((r == 21) || (r == 12)))):=(by rw[Hid];simp[Ac,Cd]);simp only[Af];cases hE:Ah p <;> cases hq:(q == 21)
   all_goals
    go_enter func19,ntmps19;go_wp2_with (go_at_call 44;refine(l2E_any _ _).mono ?_;rintro e w' ⟨rfl,rfl⟩;rw[hE]);all_goals go_ret
    all_goals exact⟨Al (by rw[d.out,hE];go_light;simp_all),OP w _⟩
  ·have d:Hid (Ac 12 o ks=false):=(by rw[Hid];simp[Ac];exact Qah ks (by rw[HN.out];exact h1) (by rw[HN.out];exact h2));clear c;simp only[Af];by_cases h3:n < 2
   ·have j:¬ (2:Int)<=(n:Int):=OC;clear h1 h2 h3;go_enter func19,ntmps19;go_wp2_with fail;go_ret;exact⟨Al d.out.symm,OP w _⟩
   ·have j:(2:Int)<=(n:Int):=OC;have z:¬ (n:Int)<=3:=OC;clear h1 h2 h3;go_enter func19,ntmps19;go_wp2_with fail;go_ret;exact⟨Al d.out.symm,OP w _⟩
theorem l2Fits_23 (o t y:Int) (x:ByteArray) (k:Int) (ks:List Int) (v:Value) (B n:Nat) (HN:Hid (ks.length=n)) (w:World) (h:w.ownsRow B 3 1 v n (C3 ks)) (hl:n<=1000000) :
  Calls prog 19 #[Af ⟨23,o,t,y,x,k⟩,v] w fun e w'=>e = .returned (.bool (Ac 23 o ks))/\Below w.heap.size w w':=by
 obtain⟨a,C,rfl,j⟩:=Ey h HN.out;clear h;simp only[Af];by_cases h1:n=0
 ·have l:Hid (Ac 23 o ks=false):=by
   have m:ks=[]:=List.eq_nil_of_length_eq_zero (by rw[HN.out];exact h1);rw[Hid,m];simp[Ac,Ea]
  subst h1;clear j;go_enter func19,ntmps19;go_wp2;refine wp_loop_rounds 1 ?_;rw[rounds_succ];go_wp2;go_ret;exact⟨Al l.out.symm,OP w _⟩
 ·obtain⟨G,rfl,_,E,A⟩:=j (n - 1) OC;have d:ks≠[]:=by intro m;have:=HN.out;rw[m]at this;simp at this;omega
  have b:ks[n - 1]'(by rw[HN.out];omega)=ks.getLast d:=by
   rw[List.getLast_eq_getElem];simp only[HN.out]
  rw[b]at A;obtain⟨z,u⟩:∃ z,z=ks.getLast d:=⟨_,rfl⟩;rw[<- u]at A;have l:Hid (Ac 23 o ks=((z == 21) && decide (n<=9) && ks.dropLast.all (fun k=>k == 22))):=by
   rw[Hid];have:=HN.out;simp[Ac,Ea,List.getLast?_eq_some_getLast d,<- u,this]
  clear u b;have F:((n:Int) - 1).toNat=n - 1:=OC
  go_enter func19,ntmps19;go_wp2;go_loop [9] (fun t => ∃ i:Nat,i<=n - 1/\t = .int .i64 (i:Int)/\(ks.dropLast.drop i).all (fun k=>k == 22)=ks.dropLast.all (fun k=>k == 22)) (fun t=>n - (intOf t).toNat);case atStart=>exact⟨0,by omega,rfl,rfl⟩
  case round =>
   obtain⟨i,I,rfl,c⟩:=hrel;by_cases hlt:i+1 < n
   ·obtain⟨g,D,_,_,r⟩:=j i OC;cases D
    have s:i < ks.dropLast.length:=(by rw[List.length_dropLast,HN.out];omega);rw[List.drop_eq_getElem_cons s,List.all_cons,List.getElem_dropLast]at c;clear j;cases hE:(ks[i]'(by rw[HN.out];omega) == 22) with
    | true =>
     have f:Hid ((ks.dropLast.drop (i+1)).all (fun k=>k == 22)=ks.dropLast.all (fun k=>k == 22)):=(by rw[hE]at c;exact c);clear c;generalize ks[i]'(by rw[HN.out];omega)=x at *;have q:(x != 22)=false:=(by simpa[bne]using hE);go_wp2;go_round;case rel=>exact⟨i+1,by omega,by go_num,f.out⟩
     case measure=>simp[intOf];omega
    | false =>
     have f:Hid (Ac 23 o ks=false):=(by rw[Hid,l.out,<- c,hE];simp);clear c;generalize ks[i]'(by rw[HN.out];omega)=x at *;have q:(x != 22)=true:=(by simpa[bne]using hE);go_wp2;go_ret;exact⟨Al f.out.symm,OP w _⟩
   ·have f:Hid (Ac 23 o ks=((z == 21) && decide (n<=9))):=by
     rw[List.drop_of_length_le (by rw[List.length_dropLast,HN.out];omega)]at c;rw[Hid,l.out,<- c];simp
    clear c j;have H:(1:Int)<=(n:Int):=OC;by_cases h9:n<=9
    ·have p:(n:Int) - 1<=8:=OC;go_wp2;go_ret;exact⟨Al (by rw[f.out];simp[h9]),OP w _⟩
    ·have p:¬ (n:Int) - 1<=8:=OC;go_wp2;go_ret;exact⟨Al (by rw[f.out];simp[h9]),OP w _⟩
theorem l2Fits_other (c:Int) (hc:c < 1\/24 < c) (o t y:Int) (x:ByteArray) (k:Int) (ks:List Int) (v:Value) (B n:Nat) (HN:Hid (ks.length=n)) (w:World) (h:w.ownsRow B 3 1 v n (C3 ks)) (_hl:n<=1000000) :
  Calls prog 19 #[Af ⟨c,o,t,y,x,k⟩,v] w fun e w'=>e = .returned (.bool (Ac c o ks))/\Below w.heap.size w w':=by
 have d:Hid (Ac c o ks=false):=by
  have b:∀ m:Int,1<=m->m<=24->c≠m:=fun m h1 h2=>OC
  rw[Hid];simp[Ac,b]
 have b:∀ m:Int,1<=m->m<=24->c≠m:=fun m h1 h2=>OC
 have G:=b 1 OC OC;have H:=b 2 OC OC;have I:=b 3 OC OC;have J:=b 4 OC OC;have K:=b 5 OC OC;have L:=b 6 OC OC;have M:=b 7 OC OC;have N:=b 8 OC OC;have O:=b 9 OC OC;have g:=b 10 OC OC;have i:=b 11 OC OC;have j:=b 12 OC OC;have l:=b 13 OC OC;have p:=b 14 OC OC;have q:=b 15 OC OC;have r:=b 16 OC OC;have s:=b 17 OC OC;have u:=b 18 OC OC;have z:=b 19 OC OC;have A:=b 20 OC OC;have C:=b 21 OC OC;have D:=b 22 OC OC;have E:=b 23 OC OC;have F:=b 24 OC OC;clear b hc;obtain⟨a,f,rfl,_⟩:=Ey h HN.out;clear h;simp only[Af];go_enter func19,ntmps19;go_wp2;go_ret;exact⟨Al d.out.symm,OP w _⟩
theorem Xm (c:Int):c=1\/c=2\/c=3\/c=4\/c=5\/c=6\/c=7\/c=8\/c=9\/c=10\/c=11\/c=12\/c=13\/c=14\/c=15\/c=16\/c=17\/c=18\/c=19\/c=20\/c=21\/c=22\/c=23\/c=24\/(c < 1\/24 < c):=OC
theorem l2Fits_any (d:Ae) (ks:List Int) (v:Value) (B n:Nat) (HN:Hid (ks.length=n)) (w:World) (h:w.ownsRow B 3 1 v n (C3 ks)) (hl:n<=1000000) :
  Calls prog 19 #[Af d,v] w fun e w'=>e = .returned (.bool (Ac d.kind d.op ks))/\Below w.heap.size w w':=by
 obtain⟨c,o,t,y,x,k⟩:=d;rcases Xm c with rfl|rfl|rfl|rfl|rfl|rfl|rfl|rfl|rfl|rfl|rfl|rfl|rfl|rfl|rfl|rfl|rfl|rfl|rfl|rfl|rfl|rfl|rfl|rfl|a
 ·exact l2Fits_ad _ OD o t y x k ks v B n HN w h hl
 ·exact l2Fits_ad _ OD o t y x k ks v B n HN w h hl
 ·exact l2Fits_ad _ OD o t y x k ks v B n HN w h hl
 ·exact l2Fits_ad _ OD o t y x k ks v B n HN w h hl
 ·exact l2Fits_bd _ OD o t y x k ks v B n HN w h hl
 ·exact l2Fits_ae _ OD o t y x k ks v B n HN w h hl
 ·exact l2Fits_7 o t y x k ks v B n HN w h hl
 ·exact l2Fits_8 o t y x k ks v B n HN w h hl
 ·exact l2Fits_bd _ OD o t y x k ks v B n HN w h hl
 ·exact l2Fits_bd _ OD o t y x k ks v B n HN w h hl
 ·exact l2Fits_bd _ OD o t y x k ks v B n HN w h hl
 ·exact l2Fits_12 o t y x k ks v B n HN w h hl
 ·exact l2Fits_13 o t y x k ks v B n HN w h hl
 ·exact l2Fits_ad _ OD o t y x k ks v B n HN w h hl
 ·exact l2Fits_ad _ OD o t y x k ks v B n HN w h hl
 ·exact l2Fits_16 o t y x k ks v B n HN w h hl
 ·exact l2Fits_bd _ OD o t y x k ks v B n HN w h hl
 ·exact l2Fits_ae _ OD o t y x k ks v B n HN w h hl
 ·exact l2Fits_bd _ OD o t y x k ks v B n HN w h hl
 ·exact l2Fits_20 o t y x k ks v B n HN w h hl
 ·exact l2Fits_21 o t y x k ks v B n HN w h hl
 ·exact l2Fits_ad _ OD o t y x k ks v B n HN w h hl
 ·exact l2Fits_23 o t y x k ks v B n HN w h hl
 ·exact l2Fits_24 o t y x k ks v B n HN w h hl
 ·exact l2Fits_other c a o t y x k ks v B n HN w h hl
theorem Qgw (ts:List Ae) (i:Nat) (h:i < ts.length) (j:Nat) (hj:j < 6):(Ap ts)[i * 6+j]? = (By ts[i])[j]?:=by
 induction ts generalizing i with
 | nil=>simp at h
 | cons t r ih =>
  cases i with
  | zero =>
   simp only[Ap,List.flatMap_cons,Nat.zero_mul,Nat.zero_add];rw[List.getElem?_append_left (by simp[By];omega)];rfl
  | succ i =>
   simp only[Ap,List.flatMap_cons];rw[List.getElem?_append_right (by simp[By];omega)];have e:(i+1) * 6+j - (By t).length=i * 6+j:=(by simp[By];omega);rw[e];exact ih i (by simpa using h)
def Bz (w:World) (v:Value) (ns:List Ae):Prop :=
 ∃ a cap,v = .slice a ns.length cap/\∀ i (hi:i < ns.length),∃ g,a=some (OK g 0)/\g < w.heap.size/\∀ j,j < 6->w.cell? (OK g (i * 6+j))=(By ns[i])[j]?
theorem M9 {w:World} {B:Nat} {v:Value} {ns:List Ae} {e:TypeId} (h:w.ownsRow B e 6 v ns.length (Ap ns)):Bz w v ns:=by
 rcases h.2 with⟨rfl,d⟩|⟨g,b,c,rfl,f,a,_⟩
 ·exact⟨none,0,by rw[d],fun i hi=>OC⟩
 ·refine⟨_,_,rfl,fun i hi=>⟨g,rfl,(Array.getElem?_eq_some_iff.1 a).1,fun j hj => ?_⟩⟩;rw[h.cellAt (i * 6+j) OC,Qgw ns i hi j hj]
theorem E9 {w w':World} {v:Value} {ns:List Ae} (h:Bz w v ns) (hb:Below w.heap.size w w'):Bz w' v ns:=by
 obtain⟨a,c,rfl,k⟩:=h;refine⟨a,c,rfl,fun i hi => ?_⟩;obtain⟨g,f,d,b⟩:=k i hi;refine⟨g,f,Nat.lt_of_lt_of_le d hb.size,fun j hj => ?_⟩;rw[hb.cell (p:=(OK g (i * 6+j))) d];exact b j hj
def Cq : List Int->Nat->List Nat->List (List Nat)->Option (List (List Nat) × List Nat)
 | [],_,opn,out=>some (out,opn)
 | k::r,i,opn,out=>if 0<=k/\k<=opn.length then Cq r (i+1) (opn.take (opn.length - k.toNat)++[i]) (out++[opn.drop (opn.length - k.toNat)]) else none
def Bt (ks:List Nat):List Value:=ks.map (fun x:Nat=>Value.int .i64 (x:Int))
def Cn (a b:Value):Prop := ∀ g,a.ownBlock=some g->b.ownBlock≠some g
def M7 (w:World) (B:Nat) (v:Value) (tab:List (List Nat)) (vs:List Value):Prop :=
 w.ownsRow B 60 1 v tab.length vs/\∀ i (hi:i < tab.length),∃ u,vs[i]? = some u/\w.ownsRow B 3 1 u tab[i].length (Bt tab[i])
theorem Tryz.infoInt : (prog.info? 3).map (fun i=>(i.zero,i.size,i.bytes))=some (some (.int .i64 0),1,8):=OE
theorem Tryz.infoInts : (prog.info? 60).map (fun i=>(i.zero,i.size,i.bytes))=some (some (.slice none 0 0),1,24):=OE
theorem Zf (l:List Nat):(Bt l).length=l.length:=by simp[Bt]
theorem Q0 (l m:List Nat):Bt (l++m)=Bt l++Bt m:=by simp[Bt]
theorem Vg {w:World} {B e g n c:Nat} {xs:List Value} (h:w.ownsRow B e 1 (.slice (some (OK g 0)) n c) n xs) (m:Nat) (hm:m<=n):w.ownsRow B e 1 (.slice (some (OK g 0)) m c) m (xs.take m):=by
 obtain⟨i,j⟩:=h;rcases j with⟨k,_⟩|⟨r,f,b,q,l,o,s,a,d,p⟩
 ·cases k
 ·cases q
  refine⟨by simp at i |-;omega,.inr ⟨g,c,b,rfl,l,o,by omega,a,d, ?_⟩⟩;rw[<- p,List.take_take];congr 1;omega
theorem Qo3 {w:World} {B e size n g:Nat} {v:Value} {xs:List Value} (h:w.ownsRow B e size v n xs) (hg:w.heap.size<=g):v.ownBlock=none\/v.ownBlock≠some g:=by
 cases hv:v.ownBlock with
 | none=>exact .inl rfl
 | some k=>right;intro a;have:=(h.lt k hv).2;cases a;omega
theorem Oy {w:World} {B e size n:Nat} {v:Value} {xs:List Value} (h:w.ownsRow B e size v n xs) (hn:0 < n):∃ g a,v = .slice (some (OK g 0)) n a/\B<=g/\g < w.heap.size:=by
 rcases h.2 with⟨_,f⟩|⟨g,a,c,rfl,d,b,_⟩
 ·omega
 ·exact⟨g,a,rfl,d,(Array.getElem?_eq_some_iff.1 b).1⟩
theorem G1 {w:World} {B e size n:Nat} {v:Value} {xs:List Value} (h:w.ownsRow B e size v n xs):∃ a b,v = .slice a n b:=by
 rcases h.2 with⟨rfl,d⟩|⟨g,b,c,rfl,_⟩
 ·exact⟨none,0,by rw[d]⟩
 ·exact⟨_,_,rfl⟩
theorem E2 {W W':World} {B e size n:Nat} {u v:Value} {xs:List Value} (h:W.ownsRow B e size u n xs) (hg:W.grownBy W' v.ownBlock) (ha:Cn u v):W'.ownsRow B e size u n xs:=by
 refine h.kept hg ?_;cases hu:u.ownBlock with
 | none=>exact .inl rfl
 | some g=>exact .inr (fun h2=>ha g hu h2.symm)
theorem Lx {u v:Value} (h:Cn u v):Cn v u:=fun g hv hu=>h g hu hv
theorem Ft {W:World} {B e size n k:Nat} {u v:Value} {xs:List Value} (h:W.ownsRow B e size u n xs) (hv:v.ownBlock=some k) (hk:W.heap.size<=k):Cn u v:=by
 intro g b a;have:=(h.lt g b).2;rw[hv]at a;cases a;omega
theorem Km {W:World} {B e size n k:Nat} {u v v':Value} {xs:List Value} (h:W.ownsRow B e size u n xs) (ha:Cn u v) (hat:v'.ownBlock=v.ownBlock\/v'.ownBlock=some k) (hk:W.heap.size<=k):Cn u v':=by
 rcases hat with a|a
 ·intro g c b;rw[a]at b;exact ha g c b
 ·exact Ft h a hk
theorem Q1 (l:List Nat):∀ u ∈ Bt l,u.oneCell'=true:=by
 intro u a;unfold Bt at a;obtain⟨y,_,rfl⟩:=List.mem_map.1 a;rfl
theorem R6 {w:World} {B e size n:Nat} {v:Value} {xs:List Value} (h:w.ownsRow B e size v n xs):∀ u ∈ [v],u.oneCell'=true:=by
 intro u a;simp at a;subst a;rcases h.2 with⟨rfl,_⟩|⟨g,b,c,rfl,_⟩ <;> rfl
theorem Hp (x:Int):∀ u ∈ [Value.int .i64 x],u.oneCell'=true:=by
 intro u a;simp at a;subst a;rfl
def Eb (ns:List Ae):Option (List (List Nat) × List Nat):=if 1<=ns.length/\ns.length<=12001 then Cq (ns.map (·.kids)) 0 [] [] else none
def U9 (w:World) (r:Option (List (List Nat) × List Nat)) (e:Ending) (w':World):Prop :=
 ∃ vo ok,e = .returned (.tuple #[vo,.bool ok])/\Below w.heap.size w w'/\(match r with|none=>ok=false|some (K,opn)=>ok=decide (opn.length=1)/\∃ vs,M7 w' w.heap.size vo K vs)
theorem Po {wr w1 w2 w3:World} {B p m cp gp:Nat} {vp vo v1 vo2 vp3 vt:Value} {opn:List Nat} {tab:List (List Nat)} {vs:List Value} {o1 o2 o3:Obj}
  (hop:wr.ownsRow B 3 1 vp (p+m) (Bt opn)) (hot:wr.ownsRow B 3 1 (.slice (some (OK gp 0)) p cp) p (Bt (opn.take p))) (hvp:vp.ownBlock=some gp)
  (htab:M7 wr B vo tab vs) (hap:Cn vo vp) (hapv:∀ (j:Nat) u,vs[j]? = some u->Cn u vp/\Cn u vo)
  (hvt:vt.ownBlock=some wr.heap.size)
  (own1:w1.ownsRow B 3 1 v1 m (Bt (opn.drop p))) (g1:(wr.alloc o1).grownBy w1 vt.ownBlock) (at1:v1.ownBlock=vt.ownBlock\/v1.ownBlock=some (wr.alloc o1).heap.size)
  (own2:w2.ownsRow B 60 1 vo2 (tab.length+1) (vs++[v1])) (g2:(w1.alloc o2).grownBy w2 vo.ownBlock) (at2:vo2.ownBlock=vo.ownBlock\/vo2.ownBlock=some (w1.alloc o2).heap.size)
  (g3:(w2.alloc o3).grownBy w3 (Value.slice (some (OK gp 0)) p cp).ownBlock) (at3:vp3.ownBlock=(Value.slice (some (OK gp 0)) p cp).ownBlock\/vp3.ownBlock=some (w2.alloc o3).heap.size)
  (hd:(opn.drop p).length=m) :
  M7 w3 B vo2 (tab++[opn.drop p]) (vs++[v1])/\Cn vo2 vp3/\∀ (j:Nat) u,(vs++[v1])[j]? = some u->Cn u vp3/\Cn u vo2:=by
 have c:∀ u,Cn u vp->Cn u (.slice (some (OK gp 0)) p cp):=fun u h g a b=>h g a (by rw[hvp];exact b)
 have z:=g1.size;have A:=g2.size;have C:=g3.size;rw[World.size_alloc]at z A C
 have t:∀ {B e size n:Nat} {u:Value} {l:List Value},wr.ownsRow B e size u n l->Cn u v1:=by
  intro B e size n u l h;rcases at1 with a|a
  ·rw[hvt]at a;exact Ft h a ON
  ·exact Ft h a OF
 have k:∀ {B e size n:Nat} {u:Value} {l:List Value},wr.ownsRow B e size u n l->Cn u vt:=fun h=>Ft h hvt ON
 -- each row of the table
 have f:∀ {n:Nat} {u:Value} {l:List Value},wr.ownsRow B 3 1 u n l->Cn u vp->Cn u vo->w3.ownsRow B 3 1 u n l/\Cn u vp3/\Cn u vo2:=by
  intro n u l h H I;have a:=E2 (h.alloc o1) g1 (k h);have b:=E2 (a.alloc o2) g2 I;have v:=E2 (b.alloc o3) g3 (c u H);exact⟨v,Km (b.alloc o3) (c u H) at3 ON,Km (a.alloc o2) I at2 ON⟩
 have d:w3.ownsRow B 3 1 v1 m (Bt (opn.drop p))/\Cn v1 vp3/\Cn v1 vo2:=by
  have F:Cn v1 vo:=Lx (t htab.1);have G:Cn v1 vp:=Lx (t hop);have b:=E2 (own1.alloc o2) g2 F;have v:=E2 (b.alloc o3) g3 (c v1 G);exact⟨v,Km (b.alloc o3) (c v1 G) at3 ON,Km (own1.alloc o2) F at2 ON⟩
 have r:=E2 (hot.alloc o1) g1 (k hot);have q:Cn (.slice (some (OK gp 0)) p cp) vo2:=Km (r.alloc o2) (fun g a b=>hap g b (by rw[hvp];exact a)) at2 ON;have o:=E2 (own2.alloc o3) g3 (Lx q);have E:vs.length=tab.length:=by have:=htab.1.1;omega
 refine⟨⟨by simpa using o,fun i hi => ?_⟩,Km (own2.alloc o3) (Lx q) at3 ON,fun j u hj => ?_⟩
 ·by_cases h:i < tab.length
  ·obtain⟨u,D,y⟩:=htab.2 i h;refine⟨u,by rw[List.getElem?_append_left OC];exact D, ?_⟩;rw[List.getElem_append_left h];exact(f y (hapv i u D).1 (hapv i u D).2).1
  ·have x:i=tab.length:=(by simp at hi;omega);subst x;refine⟨v1,by rw[List.getElem?_append_right OC];simp[E], ?_⟩;rw[List.getElem_append_right ON];simp only[Nat.sub_self,List.getElem_cons_zero,hd];exact d.1
 ·by_cases h:j < vs.length
  ·rw[List.getElem?_append_left h]at hj;obtain⟨J,s,y⟩:=htab.2 j OC;rw[hj]at s;cases s
   exact(f y (hapv j u hj).1 (hapv j u hj).2).2
  ·rw[List.getElem?_append_right OC]at hj;have:j - vs.length=0:=by
    have:=(List.getElem?_eq_some_iff.1 hj).1;simp at this;omega
   rw[this]at hj;simp at hj;subst hj;exact d.2
end Go.Proofs.YtjlaedokfbcbpaaGreatDoor
