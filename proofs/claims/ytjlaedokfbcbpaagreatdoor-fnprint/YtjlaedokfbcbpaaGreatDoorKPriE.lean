import Derived.Test.YtjlaedokfbcbpaaGreatDoorKGnD
import Derived.Deep.Light
import Derived.Deep.RegionWith
set_option maxRecDepth 100000
set_option maxHeartbeats 2000000
namespace Go.Proofs.YtjlaedokfbcbpaaGreatDoor
open Go.RowKit Proofs.Tryz
def Hr (n:Int):ByteArray:=⟨(Lib.decDigits (n % 18446744073709551616).toNat).toArray⟩
def Ec (x:ByteArray) (xs:List ByteArray):ByteArray:=x++⟨#[40]⟩++Gq xs++⟨#[41]⟩
def C2 (d:Ae) (kd:List Int) (xs:List ByteArray):ByteArray :=
 if d.kind=1 then (if d.type=10 then Hr d.n else Hr d.n++Ag d.type)
 else if d.kind=2 then Hg d.text
 else if d.kind=3 then (if d.n=1 then ⟨#[116,114,117,101]⟩ else ⟨#[102,97,108,115,101]⟩)
 else if d.kind=4 then d.text
 else if d.kind=5 then E3 d.op++En (kd.getD 0 0) (xs.getD 0 ⟨#[]⟩)
 else if d.kind=6 then En (kd.getD 0 0) (xs.getD 0 ⟨#[]⟩)++⟨#[32]⟩++C0 d.op++⟨#[32]⟩++En (kd.getD 1 0) (xs.getD 1 ⟨#[]⟩)
 else if d.kind=7 then Ec d.text xs
 else if d.kind=8 then Ec (Av d.op) xs
 else Ec (Ag d.type) xs
theorem Md {c:Prop} [Decidable c] {a b:ByteArray} {n:Nat} (ha:a.size<=n) (hb:b.size<=n):(if c then a else b).size<=n:=by split <;> assumption
theorem Du (t:Int):(Ag t).size<=4:=by
 unfold Ag;repeat' apply Md
 all_goals decide
theorem Ms (t:Int):(Av t).size<=4:=by
 unfold Av;repeat' apply Md
 all_goals decide
theorem Qa (t:Int):(E3 t).size<=1:=by
 unfold E3;repeat' apply Md
 all_goals decide
theorem Om (t:Int):(C0 t).size<=2:=by
 unfold C0;repeat' apply Md
 all_goals decide
theorem O3 (n:Int):(Hr n).size<=20:=by
 have:=S3 (n % 18446744073709551616).toNat OC;simpa[Hr,ByteArray.size]using this
theorem Mt (k:Int) (x:ByteArray):(En k x).size<=x.size+2:=by
 unfold En;split
 ·rw[ByteArray.size_append,ByteArray.size_append];have a:(⟨#[40]⟩:ByteArray).size=1:=rfl;have b:(⟨#[41]⟩:ByteArray).size=1:=rfl;omega
 ·omega
theorem Ku (xs:List ByteArray):(Gq xs).size<=Ek xs:=by
 have:=X6 xs;simpa[Gq,ByteArray.size]using this
theorem Fo {w w':World} {a b c d e f:Value} {t:TypeId} (hb:Below (w.heap.size+1) (w.alloc (.cells #[a,b,c,d,e,f] t)) w') :
  w'.cell? (OK w.heap.size 0)=some a/\w'.cell? (OK w.heap.size 1)=some b/\w'.cell? (OK w.heap.size 2)=some c/\w'.cell? (OK w.heap.size 3)=some d/\w'.cell? (OK w.heap.size 4)=some e/\w'.cell? (OK w.heap.size 5)=some f:=by
 have g:w'.heap[w.heap.size]? = some (.cells #[a,b,c,d,e,f] t (0,0)):=(hb.block w.heap.size OC).trans (Cf w _);simp[World.cell?,g]
theorem Bc {w w':World} {o:Obj} (hb:Below (w.heap.size+1) (w.alloc o) w'):Below w.heap.size w w':=(OP w o).trans (hb.mono OC)
theorem Ga {w w1 w2:World} {o:Obj} (hb:Below (w.heap.size+1) (w.alloc o) w1) (h2:Below w1.heap.size w1 w2):Below (w.heap.size+1) (w.alloc o) w2:=hb.trans (h2.mono (by have:=hb.size;simpa using this))
theorem B9 {w:World} {g:Nat} {ns:List Ae} {K:List (List Nat)} (h:A6 w g ns K) (k:Nat) (hk:k < ns.length) (hK:K.length=ns.length) :
  ∃ a f c d v,(g < w.heap.size/\a < w.heap.size/\c < w.heap.size)/\w.cell? (OK g 0)=some (.slice (some (OK a 0)) ns.length f)/\w.cell? (OK g 1)=some (.slice (some (OK c 0)) ns.length d) /\
   (w.cell? (OK a (k * 6))=some (.int .i64 ns[k].kind)/\w.cell? (OK a (k * 6+1))=some (.int .i64 ns[k].op)/\w.cell? (OK a (k * 6+2))=some (.int .i64 ns[k].type)/\w.cell? (OK a (k * 6+3))=some (.int .i64 ns[k].n)/\w.cell? (OK a (k * 6+4))=some (.string ns[k].text)/\w.cell? (OK a (k * 6+5))=some (.int .i64 ns[k].kids)) /\
   w.cell? (OK c k)=some v/\Db w v (K.getD k []):=by
 obtain⟨x,a,f,c,d,s,l,j,i,t,u⟩:=h;obtain⟨A,B,z,y⟩:=u k OC;have b:=t k hk;have m:=b 0 OC;have n:=b 1 OC;have o:=b 2 OC;have p:=b 3 OC;have q:=b 4 OC;have r:=b 5 OC;simp only[By,List.getElem?_cons_zero,List.getElem?_cons_succ,Nat.add_zero]at m n o p q r;rw[hK]at l;exact⟨a,f,c,d,_,⟨x,j,i⟩,s,l,⟨m,n,o,p,q,r⟩,z,A,B,rfl,y⟩
theorem Ql3 (n:Int) (w:World):Calls prog 99 #[.int .u64 (n % 18446744073709551616)] w fun e w'=>e = .returned (.string (Hr n))/\Below w.heap.size w w':=Tc _ OC OC w
structure Ke (g:Nat) (ns:List Ae) (K:List (List Nat)) (k:Nat) (xs:List ByteArray):Prop where
 lt:k < ns.length
 len:ns.length<=12001
 rows:K.length=ns.length
 text:ns[k].text.size<=1048576
 kidN:xs.length=(K.getD k []).length
 kidL:(K.getD k []).length<=12001
 kids:∀ x ∈ K.getD k [],x < ns.length
 size:Ek xs<=50000000
 each:∀ j (h:j < (K.getD k []).length) (h':j < xs.length),Ct g ns K (K.getD k [])[j] xs[j]
theorem Qhy (g:Nat) (ns:List Ae) (K:List (List Nat)) (k:Nat) (xs:List ByteArray) (H:Hid (Ke g ns K k xs)) (d:Ae) (hnd:ns[k]'H.out.lt=d) (hd:d.kind=2) (w:World) (HP:Hid (A6 w g ns K)) :
  Calls prog 116 #[.pointer (some (OK g 0)),.int .i64 (k:Int)] w fun e w'=>e = .returned (.string (Hg d.text))/\Below w.heap.size w w':=by
 obtain⟨n,r,i,c,B,A,b,o,a⟩:=H.out;obtain⟨R,Q,q,P,v,⟨y,z,m⟩,S,L,⟨s,E,F,G,I,J⟩,C,f⟩:=B9 HP.out k n i;have M:∀ ob:Obj,(w.alloc ob).cell? (OK g 1)=_:=fun ob=>((OP w ob).cell (p:=(OK g 1)) y).trans L
 have D:∀ ob:Obj,(w.alloc ob).cell? (OK q k)=_:=fun ob=>((OP w ob).cell (p:=(OK q k)) m).trans C
 rw[hnd]at s E F G I J c;clear hnd;rw[hd]at s;have O:Hid (Db w v (K.getD k [])):=f;clear f;have N:Hid (∀ j (h:j < (K.getD k []).length) (h':j < xs.length),Ct g ns K (K.getD k [])[j] xs[j]):=a;have t:Hid (∀ x ∈ K.getD k [],x < ns.length):=b;clear a b;have u:Hid (∀ ob:Obj,A6 (w.alloc ob) g ns K):=fun ob=>HP.out.below (OP w ob)
 go_enter func116,ntmps116;go_wp2_with (go_at_call 145;refine(Qdc _ c _).mono ?_;rintro e T ⟨rfl,l⟩);go_ret;exact⟨rfl,(OP w _).trans (l.mono OF)⟩
theorem Qe2 (g:Nat) (ns:List Ae) (K:List (List Nat)) (k:Nat) (xs:List ByteArray) (H:Hid (Ke g ns K k xs)) (d:Ae) (hnd:ns[k]'H.out.lt=d) (hd:d.kind=3) (h1:d.n=1) (w:World) (HP:Hid (A6 w g ns K)) :
  Calls prog 116 #[.pointer (some (OK g 0)),.int .i64 (k:Int)] w fun e w'=>e = .returned (.string (⟨#[116,114,117,101]⟩))/\Below w.heap.size w w':=by
 obtain⟨m,q,f,i,B,A,b,n,a⟩:=H.out;obtain⟨Q,P,o,O,v,⟨y,z,l⟩,R,J,⟨r,E,F,s,G,I⟩,C,c⟩:=B9 HP.out k m f;have L:∀ ob:Obj,(w.alloc ob).cell? (OK g 1)=_:=fun ob=>((OP w ob).cell (p:=(OK g 1)) y).trans J
 have D:∀ ob:Obj,(w.alloc ob).cell? (OK o k)=_:=fun ob=>((OP w ob).cell (p:=(OK o k)) l).trans C
 rw[hnd]at r E F s G I i;clear hnd;rw[hd]at r;have N:Hid (Db w v (K.getD k [])):=c;clear c;have M:Hid (∀ j (h:j < (K.getD k []).length) (h':j < xs.length),Ct g ns K (K.getD k [])[j] xs[j]):=a;have t:Hid (∀ x ∈ K.getD k [],x < ns.length):=b;clear a b;have u:Hid (∀ ob:Obj,A6 (w.alloc ob) g ns K):=fun ob=>HP.out.below (OP w ob)
 rw[h1]at s;go_enter func116,ntmps116;go_wp2;go_ret;exact⟨rfl,OP w _⟩
theorem Qe1 (g:Nat) (ns:List Ae) (K:List (List Nat)) (k:Nat) (xs:List ByteArray) (H:Hid (Ke g ns K k xs)) (d:Ae) (hnd:ns[k]'H.out.lt=d) (hd:d.kind=3) (h1:¬ d.n=1) (w:World) (HP:Hid (A6 w g ns K)) :
  Calls prog 116 #[.pointer (some (OK g 0)),.int .i64 (k:Int)] w fun e w'=>e = .returned (.string (⟨#[102,97,108,115,101]⟩))/\Below w.heap.size w w':=by
 obtain⟨m,q,f,i,B,A,b,n,a⟩:=H.out;obtain⟨R,Q,o,P,v,⟨y,z,l⟩,S,L,⟨r,E,F,G,I,J⟩,C,c⟩:=B9 HP.out k m f;have M:∀ ob:Obj,(w.alloc ob).cell? (OK g 1)=_:=fun ob=>((OP w ob).cell (p:=(OK g 1)) y).trans L
 have D:∀ ob:Obj,(w.alloc ob).cell? (OK o k)=_:=fun ob=>((OP w ob).cell (p:=(OK o k)) l).trans C
 rw[hnd]at r E F G I J i;clear hnd;rw[hd]at r;have O:Hid (Db w v (K.getD k [])):=c;clear c;have N:Hid (∀ j (h:j < (K.getD k []).length) (h':j < xs.length),Ct g ns K (K.getD k [])[j] xs[j]):=a;have s:Hid (∀ x ∈ K.getD k [],x < ns.length):=b;clear a b;have t:Hid (∀ ob:Obj,A6 (w.alloc ob) g ns K):=fun ob=>HP.out.below (OP w ob)
 have u:(d.n == 1)=false:=by simpa using h1
 go_enter func116,ntmps116;go_wp2;go_ret;exact⟨rfl,OP w _⟩
theorem Qhx (g:Nat) (ns:List Ae) (K:List (List Nat)) (k:Nat) (xs:List ByteArray) (H:Hid (Ke g ns K k xs)) (d:Ae) (hnd:ns[k]'H.out.lt=d) (hd:d.kind=4) (w:World) (HP:Hid (A6 w g ns K)) :
  Calls prog 116 #[.pointer (some (OK g 0)),.int .i64 (k:Int)] w fun e w'=>e = .returned (.string (d.text))/\Below w.heap.size w w':=by
 obtain⟨m,q,f,i,A,z,b,n,a⟩:=H.out;obtain⟨Q,P,o,O,v,⟨u,y,l⟩,R,J,⟨r,D,E,F,G,I⟩,B,c⟩:=B9 HP.out k m f;have L:∀ ob:Obj,(w.alloc ob).cell? (OK g 1)=_:=fun ob=>((OP w ob).cell (p:=(OK g 1)) u).trans J
 have C:∀ ob:Obj,(w.alloc ob).cell? (OK o k)=_:=fun ob=>((OP w ob).cell (p:=(OK o k)) l).trans B
 rw[hnd]at r D E F G I i;clear hnd;rw[hd]at r;have N:Hid (Db w v (K.getD k [])):=c;clear c;have M:Hid (∀ j (h:j < (K.getD k []).length) (h':j < xs.length),Ct g ns K (K.getD k [])[j] xs[j]):=a;have s:Hid (∀ x ∈ K.getD k [],x < ns.length):=b;clear a b;have t:Hid (∀ ob:Obj,A6 (w.alloc ob) g ns K):=fun ob=>HP.out.below (OP w ob)
 go_enter func116,ntmps116;go_wp2;go_ret;exact⟨rfl,OP w _⟩
theorem Qe4 (g:Nat) (ns:List Ae) (K:List (List Nat)) (k:Nat) (xs:List ByteArray) (H:Hid (Ke g ns K k xs)) (d:Ae) (hnd:ns[k]'H.out.lt=d) (hd:d.kind=1) (h1:d.type=10) (w:World) (HP:Hid (A6 w g ns K)) :
  Calls prog 116 #[.pointer (some (OK g 0)),.int .i64 (k:Int)] w fun e w'=>e = .returned (.string (Hr d.n))/\Below w.heap.size w w':=by
 obtain⟨n,r,f,i,C,B,b,o,a⟩:=H.out;obtain⟨R,Q,q,P,v,⟨z,A,m⟩,T,L,⟨s,F,t,G,I,J⟩,D,c⟩:=B9 HP.out k n f;have M:∀ ob:Obj,(w.alloc ob).cell? (OK g 1)=_:=fun ob=>((OP w ob).cell (p:=(OK g 1)) z).trans L
 have E:∀ ob:Obj,(w.alloc ob).cell? (OK q k)=_:=fun ob=>((OP w ob).cell (p:=(OK q k)) m).trans D
 rw[hnd]at s F t G I J i;clear hnd;rw[hd]at s;have O:Hid (Db w v (K.getD k [])):=c;clear c;have N:Hid (∀ j (h:j < (K.getD k []).length) (h':j < xs.length),Ct g ns K (K.getD k [])[j] xs[j]):=a;have u:Hid (∀ x ∈ K.getD k [],x < ns.length):=b;clear a b;have y:Hid (∀ ob:Obj,A6 (w.alloc ob) g ns K):=fun ob=>HP.out.below (OP w ob)
 rw[h1]at t;have S:IntKind.u64.wrap d.n=d.n % 18446744073709551616:=Jf _;go_enter func116,ntmps116;go_wp2_with (go_at_call 99;refine(Tc _ OC OC _).mono ?_;rintro e U ⟨rfl,l⟩);go_ret;exact⟨rfl,(OP w _).trans (l.mono OF)⟩
theorem Qj3 (g:Nat) (ns:List Ae) (K:List (List Nat)) (k:Nat) (xs:List ByteArray) (H:Hid (Ke g ns K k xs)) (d:Ae) (hnd:ns[k]'H.out.lt=d) (hd:d.kind=1) (h1:¬ d.type=10) (w:World) (HP:Hid (A6 w g ns K)) :
  Calls prog 116 #[.pointer (some (OK g 0)),.int .i64 (k:Int)] w fun e w'=>e = .returned (.string (Hr d.n++Ag d.type))/\Below w.heap.size w w':=by
 obtain⟨o,t,i,l,G,F,c,q,b⟩:=H.out;obtain⟨W,V,s,U,v,⟨D,E,n⟩,Y,Q,⟨u,L,M,N,O,P⟩,I,f⟩:=B9 HP.out k o i;have R:∀ ob:Obj,(w.alloc ob).cell? (OK g 1)=_:=fun ob=>((OP w ob).cell (p:=(OK g 1)) D).trans Q
 have J:∀ ob:Obj,(w.alloc ob).cell? (OK s k)=_:=fun ob=>((OP w ob).cell (p:=(OK s k)) n).trans I
 rw[hnd]at u L M N O P l;clear hnd;rw[hd]at u;have T:Hid (Db w v (K.getD k [])):=f;clear f;have S:Hid (∀ j (h:j < (K.getD k []).length) (h':j < xs.length),Ct g ns K (K.getD k [])[j] xs[j]):=b;have y:Hid (∀ x ∈ K.getD k [],x < ns.length):=c;clear b c;have z:Hid (∀ ob:Obj,A6 (w.alloc ob) g ns K):=fun ob=>HP.out.below (OP w ob)
 have C:(d.type == 10)=false:=by simpa using h1
 have X:IntKind.u64.wrap d.n=d.n % 18446744073709551616:=Jf _;have z1:=O3 d.n;have z2:=Du d.type;have Z:¬ (9223372036854775807 < (Hr d.n).size+(Ag d.type).size):=OC
 have a:=(Below.refl (w.heap.size+1) (w.alloc (.cells #[.int .i64 1,.int .i64 d.op,.int .i64 d.type,.int .i64 d.n,.string d.text,.int .i64 d.kids] 62))).drew;obtain⟨A,B,r,c3,c4,c5⟩:=Fo a;go_enter func116,ntmps116;go_wp2_with fail;go_region_held3 (fun w'=>w'.cell? (OK w.heap.size 2)=some (.int .i64 d.type)/\w'.cell? (OK w.heap.size 3)=some (.int .i64 d.n)) (with_reducible exact⟨r,c3⟩) (first
  | (go_at_call 99;refine(Ql3 _ _).mono ?_;rintro e w1 ⟨rfl,m⟩;have a:=Ga a m;obtain⟨A,B,r,c3,c4,c5⟩:=Fo a)
  | (go_at_call 48;refine(l1TypeWord_any _ _).mono ?_;rintro e w2 ⟨rfl,rfl⟩))
 go_wp2;go_ret;exact⟨rfl,Bc a⟩
theorem Ql4 (g:Nat) (ns:List Ae) (K:List (List Nat)) (k:Nat) (xs:List ByteArray) (H:Hid (Ke g ns K k xs)) (d:Ae) (hnd:ns[k]'H.out.lt=d) (hd:d.kind=5) (c:Nat) (x:ByteArray) (hcl:c < ns.length) (hxs:x.size<=100000000) (Hx:Hid (Ct g ns K c x)) (b:K.getD k []=[c]) (w:World) (HP:Hid (A6 w g ns K)) :
  Calls prog 116 #[.pointer (some (OK g 0)),.int .i64 (k:Int)] w fun e w'=>e = .returned (.string (E3 d.op++En ns[c].kind x))/\Below w.heap.size w w':=by
 obtain⟨A,r,l,m,V,U,i,B,f⟩:=H.out;obtain⟨gn,cn,F,ck,v,⟨S,T,z⟩,p0,p1,⟨L,W,X,Y,Z,n5⟩,J,b⟩:=B9 HP.out k A l;have aa:∀ ob:Obj,(w.alloc ob).cell? (OK g 1)=_:=fun ob=>((OP w ob).cell (p:=(OK g 1)) S).trans p1
 have C:∀ ob:Obj,(w.alloc ob).cell? (OK F k)=_:=fun ob=>((OP w ob).cell (p:=(OK F k)) z).trans J
 rw[hnd]at L W X Y Z n5 m;clear hnd;rw[hd]at L;have P:Hid (Db w v (K.getD k [])):=b;clear b;have HE:Hid (∀ j (h:j < (K.getD k []).length) (h':j < xs.length),Ct g ns K (K.getD k [])[j] xs[j]):=f;have N:Hid (∀ x ∈ K.getD k [],x < ns.length):=i;clear f i;have O:Hid (∀ ob:Obj,A6 (w.alloc ob) g ns K):=fun ob=>HP.out.below (OP w ob)
 have G:=P.out;rw[b]at G;obtain⟨ua,uc,rfl,I⟩:=G;obtain⟨t,rfl,q,n⟩:=I 0 OF;simp only[List.getElem_cons_zero]at n;simp only[List.length_cons,List.length_nil]at J C;clear I;have D:Hid (∀ o:World,A6 o g ns K->Calls prog 147 #[.pointer (some (OK g 0)),.int .i64 (c:Int)] o fun e w'=>e = .returned (.string (En ns[c].kind x))/\Below o.heap.size o w'):=fun o h1=>Uf g ns K c x hcl r hxs Hx o h1
 have zy:=Mt ns[c].kind x;generalize En ns[c].kind x=y at D zy |-
 have z1:=Qa d.op;have s0:¬ (9223372036854775807 < (E3 d.op).size+y.size):=OC
 have a:=(Below.refl (w.heap.size+1) (w.alloc (.cells #[.int .i64 5,.int .i64 d.op,.int .i64 d.type,.int .i64 d.n,.string d.text,.int .i64 d.kids] 62))).drew;obtain⟨Q,E,R,c3,c4,c5⟩:=Fo a;have M:=((Bc a).cell (p:=(OK t 0)) q).trans n;go_enter func116,ntmps116;go_wp2_with fail;go_region_held3 (fun w'=>w'.cell? (OK w.heap.size 1)=some (.int .i64 d.op)/\w'.cell? (OK t 0)=some (.int .i64 (c:Int))) (with_reducible exact⟨E,M⟩) (first
  | (go_at_call 146;refine(Qbh _ _).mono ?_;rintro e w2 ⟨rfl,rfl⟩)
  | (go_at_call 147;have s:=HP.out.below (Bc a);(with_reducible refine(D.out _ s).mono ?_);rintro e o ⟨rfl,u⟩;have a:=Ga a u;obtain⟨Q,E,R,c3,c4,c5⟩:=Fo a;have M:=((Bc a).cell (p:=(OK t 0)) q).trans n))
 go_wp2;go_ret;exact⟨rfl,Bc a⟩
theorem Qhv (g:Nat) (ns:List Ae) (K:List (List Nat)) (k:Nat) (xs:List ByteArray) (H:Hid (Ke g ns K k xs)) (d:Ae) (hnd:ns[k]'H.out.lt=d) (hd:d.kind=7) (w:World) (HP:Hid (A6 w g ns K)) :
  Calls prog 116 #[.pointer (some (OK g 0)),.int .i64 (k:Int)] w fun e w'=>e = .returned (.string (Ec d.text xs))/\Below w.heap.size w w':=by
 obtain⟨t,A,m,n,s,r,c,u,b⟩:=H.out;obtain⟨Z,Y,z,X,v,⟨L,M,q⟩,p0,U,⟨B,P,Q,R,S,T⟩,N,f⟩:=B9 HP.out k t m;have V:∀ ob:Obj,(w.alloc ob).cell? (OK g 1)=_:=fun ob=>((OP w ob).cell (p:=(OK g 1)) L).trans U
 have O:∀ ob:Obj,(w.alloc ob).cell? (OK z k)=_:=fun ob=>((OP w ob).cell (p:=(OK z k)) q).trans N
 rw[hnd]at B P Q R S T n;clear hnd;rw[hd]at B;have F:Hid (Db w v (K.getD k [])):=f;clear f;have C:Hid (∀ j (h:j < (K.getD k []).length) (h':j < xs.length),Ct g ns K (K.getD k [])[j] xs[j]):=b;have D:Hid (∀ x ∈ K.getD k [],x < ns.length):=c;clear b c;have E:Hid (∀ ob:Obj,A6 (w.alloc ob) g ns K):=fun ob=>HP.out.below (OP w ob)
 have y:Hid (∀ i:World,A6 i g ns K->Db i v (K.getD k [])->Calls prog 117 #[.pointer (some (OK g 0)),v] i fun e w'=>e = .returned (.string (Gq xs))/\Below i.heap.size i w'):=fun i h1 h2=>Qr g ns K v (K.getD k []) xs s r OC C i h1 h2
 have W:=Ku xs;unfold Ec;generalize Gq xs=l at y W |-
 have u0:¬ (9223372036854775806 < d.text.size):=OC
 have s0:¬ (9223372036854775807 < d.text.size+1):=OC
 have s1:¬ (9223372036854775807 < d.text.size+1+l.size):=OC
 have u2:¬ (9223372036854775806 < d.text.size+1+l.size):=OC
 have s2:¬ (9223372036854775807 < d.text.size+1+l.size+1):=OC
 have a:=(Below.refl (w.heap.size+1) (w.alloc (.cells #[.int .i64 7,.int .i64 d.op,.int .i64 d.type,.int .i64 d.n,.string d.text,.int .i64 d.kids] 62))).drew;obtain⟨G,I,J,c3,c4,c5⟩:=Fo a;go_enter func116,ntmps116;go_wp2_with fail;go_region_held3 (fun w'=>w'.cell? (OK w.heap.size 4)=some (.string d.text)) (with_reducible exact c4) (first
  | (go_at_call 117;refine(y.out _ (HP.out.below (Bc a)) (F.out.below (Bc a))).mono ?_;rintro e i ⟨rfl,o⟩;have a:=Ga a o;obtain⟨G,I,J,c3,c4,c5⟩:=Fo a))
 go_wp2;go_ret;exact⟨rfl,Bc a⟩
theorem Qe3 (g:Nat) (ns:List Ae) (K:List (List Nat)) (k:Nat) (xs:List ByteArray) (H:Hid (Ke g ns K k xs)) (d:Ae) (hnd:ns[k]'H.out.lt=d) (hd:d.kind=8) (w:World) (HP:Hid (A6 w g ns K)) :
  Calls prog 116 #[.pointer (some (OK g 0)),.int .i64 (k:Int)] w fun e w'=>e = .returned (.string (Ec (Av d.op) xs))/\Below w.heap.size w w':=by
 obtain⟨t,A,m,n,s,r,c,u,b⟩:=H.out;obtain⟨Z,Y,z,X,v,⟨L,M,q⟩,p0,U,⟨B,P,Q,R,S,T⟩,N,f⟩:=B9 HP.out k t m;have V:∀ ob:Obj,(w.alloc ob).cell? (OK g 1)=_:=fun ob=>((OP w ob).cell (p:=(OK g 1)) L).trans U
 have O:∀ ob:Obj,(w.alloc ob).cell? (OK z k)=_:=fun ob=>((OP w ob).cell (p:=(OK z k)) q).trans N
 rw[hnd]at B P Q R S T n;clear hnd;rw[hd]at B;have F:Hid (Db w v (K.getD k [])):=f;clear f;have C:Hid (∀ j (h:j < (K.getD k []).length) (h':j < xs.length),Ct g ns K (K.getD k [])[j] xs[j]):=b;have D:Hid (∀ x ∈ K.getD k [],x < ns.length):=c;clear b c;have E:Hid (∀ ob:Obj,A6 (w.alloc ob) g ns K):=fun ob=>HP.out.below (OP w ob)
 have y:Hid (∀ i:World,A6 i g ns K->Db i v (K.getD k [])->Calls prog 117 #[.pointer (some (OK g 0)),v] i fun e w'=>e = .returned (.string (Gq xs))/\Below i.heap.size i w'):=fun i h1 h2=>Qr g ns K v (K.getD k []) xs s r OC C i h1 h2
 have W:=Ku xs;unfold Ec;generalize Gq xs=l at y W |-
 have z1:=Ms d.op;have u0:¬ (9223372036854775806 < (Av d.op).size):=OC
 have s0:¬ (9223372036854775807 < (Av d.op).size+1):=OC
 have s1:¬ (9223372036854775807 < (Av d.op).size+1+l.size):=OC
 have u2:¬ (9223372036854775806 < (Av d.op).size+1+l.size):=OC
 have s2:¬ (9223372036854775807 < (Av d.op).size+1+l.size+1):=OC
 have a:=(Below.refl (w.heap.size+1) (w.alloc (.cells #[.int .i64 8,.int .i64 d.op,.int .i64 d.type,.int .i64 d.n,.string d.text,.int .i64 d.kids] 62)));obtain⟨G,I,J,c3,c4,c5⟩:=Fo a;go_enter func116,ntmps116;go_wp2_with (first
  | (go_at_call 46;refine(l1BuiltWord_any _ _).mono ?_;rintro e w2 ⟨rfl,rfl⟩)
  | (go_at_call 117;refine(y.out _ (HP.out.below (Bc a)) (F.out.below (Bc a))).mono ?_;rintro e i ⟨rfl,o⟩;have a:=Ga a o;obtain⟨G,I,J,c3,c4,c5⟩:=Fo a))
 go_ret;exact⟨rfl,Bc a⟩
theorem Qhw (g:Nat) (ns:List Ae) (K:List (List Nat)) (k:Nat) (xs:List ByteArray) (H:Hid (Ke g ns K k xs)) (d:Ae) (hnd:ns[k]'H.out.lt=d) (hd:d.kind=9) (w:World) (HP:Hid (A6 w g ns K)) :
  Calls prog 116 #[.pointer (some (OK g 0)),.int .i64 (k:Int)] w fun e w'=>e = .returned (.string (Ec (Ag d.type) xs))/\Below w.heap.size w w':=by
 obtain⟨t,A,m,n,s,r,c,u,b⟩:=H.out;obtain⟨Z,Y,z,X,v,⟨L,M,q⟩,p0,U,⟨B,P,Q,R,S,T⟩,N,f⟩:=B9 HP.out k t m;have V:∀ ob:Obj,(w.alloc ob).cell? (OK g 1)=_:=fun ob=>((OP w ob).cell (p:=(OK g 1)) L).trans U
 have O:∀ ob:Obj,(w.alloc ob).cell? (OK z k)=_:=fun ob=>((OP w ob).cell (p:=(OK z k)) q).trans N
 rw[hnd]at B P Q R S T n;clear hnd;rw[hd]at B;have F:Hid (Db w v (K.getD k [])):=f;clear f;have C:Hid (∀ j (h:j < (K.getD k []).length) (h':j < xs.length),Ct g ns K (K.getD k [])[j] xs[j]):=b;have D:Hid (∀ x ∈ K.getD k [],x < ns.length):=c;clear b c;have E:Hid (∀ ob:Obj,A6 (w.alloc ob) g ns K):=fun ob=>HP.out.below (OP w ob)
 have y:Hid (∀ i:World,A6 i g ns K->Db i v (K.getD k [])->Calls prog 117 #[.pointer (some (OK g 0)),v] i fun e w'=>e = .returned (.string (Gq xs))/\Below i.heap.size i w'):=fun i h1 h2=>Qr g ns K v (K.getD k []) xs s r OC C i h1 h2
 have W:=Ku xs;unfold Ec;generalize Gq xs=l at y W |-
 have z1:=Du d.type;have u0:¬ (9223372036854775806 < (Ag d.type).size):=OC
 have s0:¬ (9223372036854775807 < (Ag d.type).size+1):=OC
 have s1:¬ (9223372036854775807 < (Ag d.type).size+1+l.size):=OC
 have u2:¬ (9223372036854775806 < (Ag d.type).size+1+l.size):=OC
 have s2:¬ (9223372036854775807 < (Ag d.type).size+1+l.size+1):=OC
 have a:=(Below.refl (w.heap.size+1) (w.alloc (.cells #[.int .i64 9,.int .i64 d.op,.int .i64 d.type,.int .i64 d.n,.string d.text,.int .i64 d.kids] 62)));obtain⟨G,I,J,c3,c4,c5⟩:=Fo a;go_enter func116,ntmps116;go_wp2_with (first
  | (go_at_call 48;refine(l1TypeWord_any _ _).mono ?_;rintro e w2 ⟨rfl,rfl⟩)
  | (go_at_call 117;refine(y.out _ (HP.out.below (Bc a)) (F.out.below (Bc a))).mono ?_;rintro e i ⟨rfl,o⟩;have a:=Ga a o;obtain⟨G,I,J,c3,c4,c5⟩:=Fo a))
 go_ret;exact⟨rfl,Bc a⟩
theorem Qj2 (g:Nat) (ns:List Ae) (K:List (List Nat)) (k:Nat) (xs:List ByteArray) (H:Hid (Ke g ns K k xs)) (d:Ae) (hnd:ns[k]'H.out.lt=d) (hd:d.kind=6) (c:Nat) (x:ByteArray) (hcl:c < ns.length) (hxs:x.size<=100000000) (Hx:Hid (Ct g ns K c x)) (b:Nat) (y:ByteArray) (hbl:b < ns.length) (hys:y.size<=100000000) (Hy:Hid (Ct g ns K b y)) (i:K.getD k []=[c,b]) (hop:1<=d.op/\d.op<=18) (w:World) (HP:Hid (A6 w g ns K)) :
  Calls prog 116 #[.pointer (some (OK g 0)),.int .i64 (k:Int)] w fun e w'=>e = .returned (.string (En ns[c].kind x++⟨#[32]⟩++C0 d.op++⟨#[32]⟩++En ns[b].kind y))/\Below w.heap.size w w':=by
 obtain⟨I,u,A,B,ac,ab,n,J,m⟩:=H.out;obtain⟨gn,cn,R,ck,v,⟨Z,aa,F⟩,p0,p1,⟨U,n1,n2,n3,n4,n5⟩,T,i⟩:=B9 HP.out k I A;have ad:∀ ob:Obj,(w.alloc ob).cell? (OK g 1)=_:=fun ob=>((OP w ob).cell (p:=(OK g 1)) Z).trans p1
 have L:∀ ob:Obj,(w.alloc ob).cell? (OK R k)=_:=fun ob=>((OP w ob).cell (p:=(OK R k)) F).trans T
 rw[hnd]at U n1 n2 n3 n4 n5 B;clear hnd;rw[hd]at U;have X:Hid (Db w v (K.getD k [])):=i;clear i;have HE:Hid (∀ j (h:j < (K.getD k []).length) (h':j < xs.length),Ct g ns K (K.getD k [])[j] xs[j]):=m;have V:Hid (∀ x ∈ K.getD k [],x < ns.length):=n;clear m n;have W:Hid (∀ ob:Obj,A6 (w.alloc ob) g ns K):=fun ob=>HP.out.below (OP w ob)
 have S:=X.out;rw[i]at S;obtain⟨ua,uc,rfl,G⟩:=S;obtain⟨t,rfl,l,r⟩:=G 0 OF;obtain⟨Y,E,_,s⟩:=G 1 OF;cases E
 simp only[List.getElem_cons_zero,List.getElem_cons_succ]at r s;simp only[List.length_cons,List.length_nil]at T L;clear G;have C:Hid (∀ f:World,A6 f g ns K->Calls prog 147 #[.pointer (some (OK g 0)),.int .i64 (c:Int)] f fun e w'=>e = .returned (.string (En ns[c].kind x))/\Below f.heap.size f w'):=fun f h1=>Uf g ns K c x hcl u hxs Hx f h1
 have zp:=Mt ns[c].kind x;generalize En ns[c].kind x=p at C zp |-
 have D:Hid (∀ f:World,A6 f g ns K->Calls prog 147 #[.pointer (some (OK g 0)),.int .i64 (b:Int)] f fun e w'=>e = .returned (.string (En ns[b].kind y))/\Below f.heap.size f w'):=fun f h1=>Uf g ns K b y hbl u hys Hy f h1
 have zq:=Mt ns[b].kind y;generalize En ns[b].kind y=q at D zq |-
 have z1:=Om d.op;have u0:¬ (9223372036854775806 < p.size):=OC
 have s0:¬ (9223372036854775807 < p.size+1):=OC
 have s1:¬ (9223372036854775807 < p.size+1+(C0 d.op).size):=OC
 have u2:¬ (9223372036854775806 < p.size+1+(C0 d.op).size):=OC
 have s2:¬ (9223372036854775807 < p.size+1+(C0 d.op).size+1):=OC
 have s3:¬ (9223372036854775807 < p.size+1+(C0 d.op).size+1+q.size):=OC
 have a:=(Below.refl (w.heap.size+1) (w.alloc (.cells #[.int .i64 6,.int .i64 d.op,.int .i64 d.type,.int .i64 d.n,.string d.text,.int .i64 d.kids] 62))).drew;obtain⟨O,P,Q,c3,c4,c5⟩:=Fo a;have M:=((Bc a).cell (p:=(OK t 0)) l).trans r;have N:=((Bc a).cell (p:=(OK t 1)) l).trans s;go_enter func116,ntmps116;go_wp2_with (go_at_call 148;refine(Qe6 _ hop _).mono ?_;rintro e w2 ⟨rfl,rfl⟩);go_region_held3 (fun w'=>w'.cell? (OK t 0)=some (.int .i64 (c:Int))/\w'.cell? (OK t 1)=some (.int .i64 (b:Int))) (with_reducible exact⟨M,N⟩) (first
  | (go_at_call 147;have o:=HP.out.below (Bc a);(with_reducible refine(C.out _ o).mono ?_);rintro e f ⟨rfl,z⟩;have a:=Ga a z;obtain⟨O,P,Q,c3,c4,c5⟩:=Fo a;have M:=((Bc a).cell (p:=(OK t 0)) l).trans r;have N:=((Bc a).cell (p:=(OK t 1)) l).trans s)
  | (go_at_call 147;have o:=HP.out.below (Bc a);(with_reducible refine(D.out _ o).mono ?_);rintro e f ⟨rfl,z⟩;have a:=Ga a z;obtain⟨O,P,Q,c3,c4,c5⟩:=Fo a;have M:=((Bc a).cell (p:=(OK t 0)) l).trans r;have N:=((Bc a).cell (p:=(OK t 1)) l).trans s))
 go_wp2;go_ret;exact⟨rfl,Bc a⟩
def J1 (d:Ae):Bool :=
 if d.kind=1 then decide (3<=d.type) && decide (d.type<=10) && decide (IntKind.u64.wrap d.n<=Ce d.type)
 else if d.kind=2 then decide (d.text.size<=3000)
 else if d.kind=3 then decide (d.n=0) || decide (d.n=1)
 else if d.kind=5 then decide (1<=d.op) && decide (d.op<=3)
 else if d.kind=6 then decide (1<=d.op) && decide (d.op<=18)
 else if d.kind=8 then decide (1<=d.op) && decide (d.op<=12)
 else if d.kind=9 then decide (3<=d.type) && decide (d.type<=10)
 else if d.kind=22 then decide (1<=d.type) && decide (d.type<=10)
 else if d.kind=23 then decide (0<=d.type) && decide (d.type<=10)
 else true
def H1 (d:Ae):Bool:=(Hm d.kind || (d.op == 0)) && (F4 d.kind || (d.type == 0)) && (Ns d.kind || (d.n == 0)) && (F3 d.kind || d.text.toList.isEmpty)
def Bo (d:Ae):Bool:=H1 d && (!Cs d.kind || A0 d.text) && J1 d
theorem Pj (d:Ae) (h:H1 d=false):Bo d=false:=by simp[Bo,h]
theorem Hv {w w1:World} {c0 c1 c2 c3 c4 c5:Value} {t:TypeId} (hb:Below (w.heap.size+1) (w.alloc (.cells #[c0,c1,c2,c3,c4,c5] t)) w1) :
  w1.cell? (OK w.heap.size 0)=some c0/\w1.cell? (OK w.heap.size 1)=some c1/\w1.cell? (OK w.heap.size 2)=some c2/\w1.cell? (OK w.heap.size 3)=some c3/\w1.cell? (OK w.heap.size 4)=some c4/\w1.cell? (OK w.heap.size 5)=some c5:=by
 refine⟨?_, ?_, ?_, ?_, ?_, ?_⟩
 ·rw[hb.cell (p:=(OK w.heap.size 0)) OF];simp[go_sem]
 ·rw[hb.cell (p:=(OK w.heap.size 1)) OF];simp[go_sem]
 ·rw[hb.cell (p:=(OK w.heap.size 2)) OF];simp[go_sem]
 ·rw[hb.cell (p:=(OK w.heap.size 3)) OF];simp[go_sem]
 ·rw[hb.cell (p:=(OK w.heap.size 4)) OF];simp[go_sem]
 ·rw[hb.cell (p:=(OK w.heap.size 5)) OF];simp[go_sem]
theorem No {w w1:World} {o:Obj} (hb:Below (w.heap.size+1) (w.alloc o) w1):Below w.heap.size w w1:=(OP w _).trans (hb.mono OC)
theorem DdTreeBx45 {P:Prop} (h:P:=by
 go_enter func18,ntmps18
 go_wp2_with (first
  | (go_at_call 39;refine(l2Uses_any _ _).mono ?_;rintro e w' ⟨rfl,rfl⟩;rw[b.out])
  | (go_at_call 40;refine(l2Named_any _ _).mono ?_;rintro e w' ⟨rfl,rfl⟩;rw[a.out]))
 all_goals go_ret
 all_goals refine⟨Al ?_, ?_⟩
 all_goals first|exact OP w _|skip
 all_goals go_light
 all_goals simp_all [Bo,H1,J1,Hm,F4,Ns,F3,Cs]
 all_goals first|omega|(rw[Bool.eq_iff_iff];simp;omega)
 ):P:=h
theorem l2Fields_2 (o t n:Int) (x:ByteArray) (k:Int) (w:World) :
  Calls prog 18 #[Af ⟨2,o,t,n,x,k⟩] w fun e w'=>e = .returned (.bool (Bo ⟨2,o,t,n,x,k⟩))/\Below w.heap.size w w':=by
 have b:Hid (Ex 2 = .tuple #[.bool false,.bool false,.bool false,.bool true]):=by rw[Hid];rfl
 have a:Hid (Cs 2=false):=by rw[Hid];rfl
 simp only[Af];exact DdTreeBx45
theorem l2Fields_3 (o t n:Int) (x:ByteArray) (k:Int) (w:World) :
  Calls prog 18 #[Af ⟨3,o,t,n,x,k⟩] w fun e w'=>e = .returned (.bool (Bo ⟨3,o,t,n,x,k⟩))/\Below w.heap.size w w':=by
 have b:Hid (Ex 3 = .tuple #[.bool false,.bool false,.bool true,.bool false]):=by rw[Hid];rfl
 have a:Hid (Cs 3=false):=by rw[Hid];rfl
 simp only[Af];exact DdTreeBx45
theorem DdTreeBx78 {P:Prop} (h:P:=by
 cases hq:A0 x
 all_goals
  simp only[Af]
  go_enter func18,ntmps18
  go_wp2_with (first
   | (go_at_call 39;refine(l2Uses_any _ _).mono ?_;rintro e w' ⟨rfl,rfl⟩;rw[b.out])
   | (go_at_call 40;refine(l2Named_any _ _).mono ?_;rintro e w' ⟨rfl,rfl⟩;rw[a.out])
   | (go_at_call 41;refine(l1NameOk_any _ _).mono ?_;rintro e m ⟨rfl,c⟩;rw[hq];rw[World.size_alloc]at c;obtain⟨d,f,g,i,j,l⟩:=Hv c))
  all_goals go_ret
  all_goals refine⟨Al ?_, ?_⟩
  all_goals first|exact OP w _|exact No OG|skip
  all_goals go_light
  all_goals simp_all [Bo,H1,J1,Hm,F4,Ns,F3,Cs]
  all_goals first|omega|(rw[Bool.eq_iff_iff];simp;omega)
 ):P:=h
theorem l2Fields_4 (o t n:Int) (x:ByteArray) (k:Int) (w:World) :
  Calls prog 18 #[Af ⟨4,o,t,n,x,k⟩] w fun e w'=>e = .returned (.bool (Bo ⟨4,o,t,n,x,k⟩))/\Below w.heap.size w w':=by
 have b:Hid (Ex 4 = .tuple #[.bool false,.bool false,.bool false,.bool true]):=by rw[Hid];rfl
 have a:Hid (Cs 4=true):=by rw[Hid];rfl
 exact DdTreeBx78
theorem l2Fields_5 (o t n:Int) (x:ByteArray) (k:Int) (w:World) :
  Calls prog 18 #[Af ⟨5,o,t,n,x,k⟩] w fun e w'=>e = .returned (.bool (Bo ⟨5,o,t,n,x,k⟩))/\Below w.heap.size w w':=by
 have b:Hid (Ex 5 = .tuple #[.bool true,.bool false,.bool false,.bool false]):=by rw[Hid];rfl
 have a:Hid (Cs 5=false):=by rw[Hid];rfl
 simp only[Af];exact DdTreeBx45
theorem l2Fields_6 (o t n:Int) (x:ByteArray) (k:Int) (w:World) :
  Calls prog 18 #[Af ⟨6,o,t,n,x,k⟩] w fun e w'=>e = .returned (.bool (Bo ⟨6,o,t,n,x,k⟩))/\Below w.heap.size w w':=by
 have b:Hid (Ex 6 = .tuple #[.bool true,.bool false,.bool false,.bool false]):=by rw[Hid];rfl
 have a:Hid (Cs 6=false):=by rw[Hid];rfl
 simp only[Af];exact DdTreeBx45
theorem l2Fields_7 (o t n:Int) (x:ByteArray) (k:Int) (w:World) :
  Calls prog 18 #[Af ⟨7,o,t,n,x,k⟩] w fun e w'=>e = .returned (.bool (Bo ⟨7,o,t,n,x,k⟩))/\Below w.heap.size w w':=by
 have b:Hid (Ex 7 = .tuple #[.bool false,.bool false,.bool false,.bool true]):=by rw[Hid];rfl
 have a:Hid (Cs 7=true):=by rw[Hid];rfl
 exact DdTreeBx78
theorem l2Fields_8 (o t n:Int) (x:ByteArray) (k:Int) (w:World) :
  Calls prog 18 #[Af ⟨8,o,t,n,x,k⟩] w fun e w'=>e = .returned (.bool (Bo ⟨8,o,t,n,x,k⟩))/\Below w.heap.size w w':=by
 have b:Hid (Ex 8 = .tuple #[.bool true,.bool false,.bool false,.bool false]):=by rw[Hid];rfl
 have a:Hid (Cs 8=false):=by rw[Hid];rfl
 simp only[Af];exact DdTreeBx45
theorem l2Fields_9 (o t n:Int) (x:ByteArray) (k:Int) (w:World) :
  Calls prog 18 #[Af ⟨9,o,t,n,x,k⟩] w fun e w'=>e = .returned (.bool (Bo ⟨9,o,t,n,x,k⟩))/\Below w.heap.size w w':=by
 have b:Hid (Ex 9 = .tuple #[.bool false,.bool true,.bool false,.bool false]):=by rw[Hid];rfl
 have a:Hid (Cs 9=false):=by rw[Hid];rfl
 simp only[Af];go_enter func18,ntmps18;go_wp2_with (first
  | (go_at_call 39;refine(l2Uses_any _ _).mono ?_;rintro e w' ⟨rfl,rfl⟩;rw[b.out])
  | (go_at_call 40;refine(l2Named_any _ _).mono ?_;rintro e w' ⟨rfl,rfl⟩;rw[a.out])
  | (go_at_call 42;refine(l1Integer_any _ _).mono ?_;rintro e w' ⟨rfl,rfl⟩))
 all_goals go_ret
 all_goals refine⟨Al ?_, ?_⟩
 all_goals first|exact OP w _|skip
 all_goals go_light
 all_goals simp_all [Bo,H1,J1,Hm,F4,Ns,F3,Cs]
 all_goals first|omega|(rw[Bool.eq_iff_iff];simp;omega)
theorem l2Fields_10 (o t n:Int) (x:ByteArray) (k:Int) (w:World) :
  Calls prog 18 #[Af ⟨10,o,t,n,x,k⟩] w fun e w'=>e = .returned (.bool (Bo ⟨10,o,t,n,x,k⟩))/\Below w.heap.size w w':=by
 have b:Hid (Ex 10 = .tuple #[.bool false,.bool false,.bool false,.bool true]):=by rw[Hid];rfl
 have a:Hid (Cs 10=true):=by rw[Hid];rfl
 exact DdTreeBx78
theorem l2Fields_11 (o t n:Int) (x:ByteArray) (k:Int) (w:World) :
  Calls prog 18 #[Af ⟨11,o,t,n,x,k⟩] w fun e w'=>e = .returned (.bool (Bo ⟨11,o,t,n,x,k⟩))/\Below w.heap.size w w':=by
 have b:Hid (Ex 11 = .tuple #[.bool false,.bool false,.bool false,.bool true]):=by rw[Hid];rfl
 have a:Hid (Cs 11=true):=by rw[Hid];rfl
 exact DdTreeBx78
theorem l2Fields_22 (o t n:Int) (x:ByteArray) (k:Int) (w:World) :
  Calls prog 18 #[Af ⟨22,o,t,n,x,k⟩] w fun e w'=>e = .returned (.bool (Bo ⟨22,o,t,n,x,k⟩))/\Below w.heap.size w w':=by
 have b:Hid (Ex 22 = .tuple #[.bool false,.bool true,.bool false,.bool true]):=by rw[Hid];rfl
 have a:Hid (Cs 22=true):=by rw[Hid];rfl
 exact DdTreeBx78
theorem l2Fields_23 (o t n:Int) (x:ByteArray) (k:Int) (w:World) :
  Calls prog 18 #[Af ⟨23,o,t,n,x,k⟩] w fun e w'=>e = .returned (.bool (Bo ⟨23,o,t,n,x,k⟩))/\Below w.heap.size w w':=by
 have b:Hid (Ex 23 = .tuple #[.bool false,.bool true,.bool false,.bool true]):=by rw[Hid];rfl
 have a:Hid (Cs 23=true):=by rw[Hid];rfl
 exact DdTreeBx78
end Go.Proofs.YtjlaedokfbcbpaaGreatDoor
