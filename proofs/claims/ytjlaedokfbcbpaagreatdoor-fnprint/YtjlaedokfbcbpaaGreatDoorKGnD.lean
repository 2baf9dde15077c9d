import Derived.Test.YtjlaedokfbcbpaaGreatDoorKGnC
import Derived.Lib.AppendStr
set_option maxRecDepth 100000
set_option maxHeartbeats 4000000
namespace Go.Proofs.YtjlaedokfbcbpaaGreatDoor
open Go.RowKit Proofs.Tryz
theorem Qoh {w:World} {R p:Nat} (h:Dn w R p):El R p 0 w w:=⟨⟨p,Nat.le_refl _,Nat.le_refl _,h⟩,Cp.refl R w⟩
def E3 (op:Int):ByteArray:=if op=1 then ⟨#[45]⟩ else if op=2 then ⟨#[33]⟩ else ⟨#[126]⟩
def C0 (op:Int):ByteArray:=if op=1 then ⟨#[124,124]⟩ else if op=2 then ⟨#[38,38]⟩ else if op=3 then ⟨#[61,61]⟩ else if op=4 then ⟨#[33,61]⟩ else if op=5 then ⟨#[60]⟩ else if op=6 then ⟨#[60,61]⟩ else if op=7 then ⟨#[62]⟩ else if op=8 then ⟨#[62,61]⟩ else if op=9 then ⟨#[43]⟩ else if op=10 then ⟨#[45]⟩ else if op=11 then ⟨#[124]⟩ else if op=12 then ⟨#[94]⟩ else if op=13 then ⟨#[42]⟩ else if op=14 then ⟨#[47]⟩ else if op=15 then ⟨#[37]⟩ else if op=16 then ⟨#[38]⟩ else if op=17 then ⟨#[60,60]⟩ else ⟨#[62,62]⟩
def Ql2 (op:Int):Int:=if op=1 then 1 else if op=2 then 2 else if op<=8 then 3 else if op<=12 then 4 else 5
theorem Qbh (op:Int) (w:World) :
  Calls prog 146 #[.int .i64 op] w fun e w'=>e = .returned (.string (E3 op))/\w=w':=by
 go_enter func146,ntmps146;go_wp2;all_goals go_ret
 all_goals exact⟨by simp_all [E3],rfl⟩
theorem Qe6 (op:Int) (h:1<=op/\op<=18) (w:World) :
  Calls prog 148 #[.int .i64 op] w fun e w'=>e = .returned (.tuple #[.string (C0 op),.int .i64 (Ql2 op)])/\w=w':=by
 have a:op=1\/op=2\/op=3\/op=4\/op=5\/op=6\/op=7\/op=8\/op=9\/op=10\/op=11\/op=12\/op=13\/op=14\/op=15\/op=16\/op=17\/op=18:=OC
 rcases a with rfl|rfl|rfl|rfl|rfl|rfl|rfl|rfl|rfl|rfl|rfl|rfl|rfl|rfl|rfl|rfl|rfl|rfl
 all_goals
  go_enter func148,ntmps148;go_wp2;go_ret2;exact⟨rfl,rfl⟩
def Fs (n:Nat):UInt8:=if n < 10 then UInt8.ofNat (48+n) else UInt8.ofNat (87+n)
def Vr (b:UInt8):List UInt8:=if H3 (b.toNat:Int)=true then [b] else [92,Fs (b.toNat / 16),Fs (b.toNat % 16)]
def Lb (l:List UInt8):List UInt8:=l.flatMap Vr
def Hg (s:ByteArray):ByteArray:=⟨(34::Lb s.data.toList++[34]).toArray⟩
theorem Qnx (b:UInt8):(Vr b).length<=3:=by unfold Vr;split <;> simp
theorem U3 : ∀ l:List UInt8,(Lb l).length<=3 * l.length
 | []=>by simp[Lb]
 | b::r=>by
  have c:=Qnx b
  have a:=U3 r
  simp only[Lb,List.flatMap_cons,List.length_append,List.length_cons]at a |-
  omega
theorem Sr (s:ByteArray) (i:Nat) (h:i < s.size):Lb (s.data.toList.take (i+1))=Lb (s.data.toList.take i)++Vr s[i]:=by
 have e:s.data.toList.take (i+1)=s.data.toList.take i++[s[i]]:=by
  have a:i < s.data.toList.length:=by simpa using h
  rw[List.take_add_one,List.getElem?_eq_getElem a];simp[ByteArray.getElem_eq_getElem_data]
 rw[e];simp[Lb]
theorem Qhu (n:Nat) (hn:n < 16) (h:n < (⟨#[48,49,50,51,52,53,54,55,56,57,97,98,99,100,101,102]⟩:ByteArray).size):(⟨#[48,49,50,51,52,53,54,55,56,57,97,98,99,100,101,102]⟩:ByteArray)[n]'h=Fs n:=by
 have:n=0\/n=1\/n=2\/n=3\/n=4\/n=5\/n=6\/n=7\/n=8\/n=9\/n=10\/n=11\/n=12\/n=13\/n=14\/n=15:=OC
 rcases this with rfl|rfl|rfl|rfl|rfl|rfl|rfl|rfl|rfl|rfl|rfl|rfl|rfl|rfl|rfl|rfl <;> rfl
theorem Qpj (w:World) (a b c:Value) (t:TypeId) (k:Nat) (u:Value) (hu:[a,b,c][k]? = some u):(w.alloc (.cells #[a,b,c] t)).cell? (((OK w.heap.size 0):Addr).add k)=some u:=by
 have e:(w.alloc (.cells #[a,b,c] t)).heap[w.heap.size]? = some (.cells #[a,b,c] t (0,0)):=Cf w _;have f:((OK w.heap.size 0):Addr).add k=(OK w.heap.size k):=by unfold Addr.add;split <;> simp_all
 rw[f];have d:(#[a,b,c]:Array Value)[k]? = some u:=by rw[<- Array.getElem?_toList];exact hu
 simp only[World.cell?,e];simpa using d
theorem Jt (a b:List UInt8):Lib.byteCells (a++b)=Lib.byteCells a++Lib.byteCells b:=by simp[Lib.byteCells]
theorem Qdc (s:ByteArray) (hs:s.size<=1048576) (w:World) :
    Calls prog 145 #[.string s] w fun e w'=>e = .returned (.string (Hg s))/\Below w.heap.size w w':=by
  obtain⟨A,z,n,p,q⟩:=info_parts Tryz.infoByte;go_enter func145,ntmps145;go_wp2;go_loopw [3,5] (fun o i wr => ∃ (j:Nat) (acc:List UInt8),i = .int .i64 (j:Int)/\j<=s.size/\acc=34::Lb (s.data.toList.take j)/\wr.ownsRow w.heap.size 5 1 o acc.length (Lib.byteCells acc)/\Below w.heap.size w wr) (fun _ i _=>s.size - (intOf i).toNat);case atStart =>
    refine⟨0,[34],rfl,by omega,by simp[Lb], ?_,OP w _⟩;exact Ur w 34 OC OC
  case round =>
    obtain⟨j,acc,rfl,t,c,d,g⟩:=hrel;have m:=g.size;have B:acc.length<=3145729:=by
      have:=U3 (s.data.toList.take j);rw[c];simp at this |-;omega
    by_cases hjs:j < s.size
    · cases hb:H3 (s[j].toNat:Int) with
      | true =>
        have v:Hid (acc++[s[j]]=34::Lb (s.data.toList.take (j+1))):=(by rw[Hid,Sr s j hjs,c,Vr,if_pos hb];rfl);clear c;go_wp2_with (first
          | (go_at_call 174;refine(l1Bare_any _ _).mono ?_;rintro e w' ⟨rfl,rfl⟩;rw[hb])
          | (at_builtin;refine wpList_append_own _ rfl _ _ 22 rfl w.heap.size 5 A (.int .u8 0) 1 1 underlying22 z n p q rfl OD _ _ _ rfl (d.alloc _) (OK wr.heap.size 0) 1 1 [.int .u8 (s[j].toNat:Int)] rfl rfl (cell_one_new _ _ _) (fun x hx=>by simp at hx;subst hx;rfl) OI OC OH ?_;intro v' r b a l))
        have f:Below w.heap.size w r:=Below.grown (g.alloc m _) a OH (fun j t=>(d.lt _ t).1);go_roundw;case rel=>exact⟨j+1,acc++[s[j]],by go_num,by omega,v.out,by rw[Gv];simpa using b,f⟩
        case measure=>simp[intOf];omega
      | false =>
        go_wp2_with (first
          | (go_at_call 174;refine(l1Bare_any _ _).mono ?_;rintro e w' ⟨rfl,rfl⟩;rw[hb]))
        have D:s[j].toNat < 256:=UInt8.toNat_lt _;have F:IntKind.u8.wrap ((s[j].toNat:Int) / 16)=(s[j].toNat:Int) / 16:=(by rw[IntKind.wrap_u8];omega);have G:IntKind.u8.wrap ((s[j].toNat:Int) % 16)=(s[j].toNat:Int) % 16:=(by rw[IntKind.wrap_u8];omega);have H:((s[j].toNat:Int) / 16) % 256=(s[j].toNat:Int) / 16:=OC;have I:((s[j].toNat:Int) % 16) % 256=(s[j].toNat:Int) % 16:=OC;have J:(s[j].toNat:Int).tmod 16=(s[j].toNat:Int) % 16:=Int.tmod_eq_emod_of_nonneg OC;have K:(s[j].toNat:Int).tdiv 16=(s[j].toNat:Int) / 16:=Int.tdiv_eq_ediv_of_nonneg OC;have L:(0:Int)<=(s[j].toNat:Int) / 16:=OC;have M:(s[j].toNat:Int) / 16 < 16:=OC;have N:(0:Int)<=(s[j].toNat:Int) % 16:=OC;have O:(s[j].toNat:Int) % 16 < 16:=OC;have Q:((s[j].toNat:Int) / 16).toNat=s[j].toNat / 16:=OC;have R:((s[j].toNat:Int) % 16).toNat=s[j].toNat % 16:=OC;have T:∀ (h:s[j].toNat / 16 < (⟨#[48,49,50,51,52,53,54,55,56,57,97,98,99,100,101,102]⟩:ByteArray).size),(⟨#[48,49,50,51,52,53,54,55,56,57,97,98,99,100,101,102]⟩:ByteArray)[s[j].toNat / 16]'h=Fs (s[j].toNat / 16):=fun h=>Qhu _ OC h
        have U:∀ (h:s[j].toNat % 16 < (⟨#[48,49,50,51,52,53,54,55,56,57,97,98,99,100,101,102]⟩:ByteArray).size),(⟨#[48,49,50,51,52,53,54,55,56,57,97,98,99,100,101,102]⟩:ByteArray)[s[j].toNat % 16]'h=Fs (s[j].toNat % 16):=fun h=>Qhu _ OC h
        have v:Hid (acc++[92,Fs (s[j].toNat / 16),Fs (s[j].toNat % 16)]=34::Lb (s.data.toList.take (j+1))):=(by rw[Hid,Sr s j hjs,c,Vr,if_neg (by rw[hb];decide)];rfl);clear c;go_region_law (first
          | (refine Iy rfl (.tmp 23) (.tmp 36) 22 rfl w.heap.size 5 A (.int .u8 0) 1 1 underlying22 z n p q rfl OD _ _ _ rfl (by repeat (first|exact d|apply World.ownsRow.drew|apply World.ownsRow.alloc)) (OK wr.heap.size 0) 3 3 [.int .u8 92,.int .u8 ((Fs (s[j].toNat / 16)).toNat:Int),.int .u8 ((Fs (s[j].toNat % 16)).toNat:Int)] rfl rfl (by intro k u S;exact Qpj _ _ _ _ _ k u S) (fun x hx=>by simp at hx;rcases hx with rfl|rfl|rfl <;> rfl) OI OC OH ?_;intro v' r b a))
        all_goals
          have f:Below w.heap.size w r:=Below.grown (by repeat (first|exact g|apply Below.drew|(refine Below.alloc ?_ (by simpa using m) _))) a OH (fun j t=>(d.lt _ t).1);have C:Hid (r.ownsRow w.heap.size 5 1 v' (acc++[92,Fs (s[j].toNat / 16),Fs (s[j].toNat % 16)]).length (Lib.byteCells (acc++[92,Fs (s[j].toNat / 16),Fs (s[j].toNat % 16)]))):=by
            rw[Hid,Jt];simpa[Lib.byteCells]using b
          clear b a;go_wp2;go_roundw;case rel=>exact⟨j+1,_,by go_num,by omega,v.out,C.out,f⟩
          case measure=>simp[intOf];omega
    · have v:Hid (acc++[34]=34::Lb s.data.toList++[34]):=by
        rw[Hid,c,List.take_of_length_le OH]
      clear c;go_wp2_with (first
        | (at_builtin;refine wpList_append_own _ rfl _ _ 22 rfl w.heap.size 5 A (.int .u8 0) 1 1 underlying22 z n p q rfl OD _ _ _ rfl (d.alloc _) (OK wr.heap.size 0) 1 1 [.int .u8 34] rfl rfl (cell_one_new _ _ _) (fun x hx=>by simp at hx;subst hx;rfl) OI OC OH ?_;intro v' r b a l
           have y:r.ownsRow w.heap.size 5 1 v' (acc++[34]).length (Lib.byteCells (acc++[34])):=by rw[Gv];simpa using b
           have E:=Lq (P:=prog) (src:=22) (dst:=9) underlying22 underlying5 underlying9 y))
      have f:Below w.heap.size w r:=Below.grown (g.alloc m _) a OH (fun j t=>(d.lt _ t).1);go_ret;exact⟨by rw[Hg,<- v.out];rfl,f⟩
def A6 (w:World) (g:Nat) (ns:List Ae) (K:List (List Nat)):Prop :=
 g < w.heap.size/\∃ gn cn gk ck,w.cell? (OK g 0)=some (.slice (some (OK gn 0)) ns.length cn)/\w.cell? (OK g 1)=some (.slice (some (OK gk 0)) K.length ck)/\gn < w.heap.size/\gk < w.heap.size /\
  (∀ i (h:i < ns.length) j,j < 6->w.cell? (OK gn (i * 6+j))=(By ns[i])[j]?) /\
  (∀ i,i < K.length->∃ ua uc,w.cell? (OK gk i)=some (.slice ua (K.getD i []).length uc)/\∀ j (h:j < (K.getD i []).length),∃ gu,ua=some (OK gu 0)/\gu < w.heap.size/\w.cell? (OK gu j)=some (.int .i64 ((K.getD i [])[j]:Int)))
theorem A6.below {w w':World} {g:Nat} {ns:List Ae} {K:List (List Nat)} (h:A6 w g ns K) (hb:Below w.heap.size w w'):A6 w' g ns K:=by
 obtain⟨m,k,o,f,n,q,r,b,a,t,s⟩:=h;have A:=hb.size;refine⟨by omega,k,o,f,n,(hb.cell (p:=(OK g 0)) m).trans q,(hb.cell (p:=(OK g 1)) m).trans r,by omega,by omega,fun i hi j d=>(hb.cell (p:=(OK k (i * 6+j))) b).trans (t i hi j d),fun i hi => ?_⟩;obtain⟨y,z,x,d⟩:=s i hi;refine⟨y,z,(hb.cell (p:=(OK f i)) a).trans x,fun j hjl => ?_⟩;obtain⟨l,v,c,u⟩:=d j hjl;exact⟨l,v,by omega,(hb.cell (p:=(OK l j)) c).trans u⟩
def Db (w:World) (v:Value) (ks:List Nat):Prop := ∃ ua uc,v = .slice ua ks.length uc/\∀ j (h:j < ks.length),∃ gu,ua=some (OK gu 0)/\gu < w.heap.size/\w.cell? (OK gu j)=some (.int .i64 (ks[j]:Int))
theorem Db.below {w w':World} {v:Value} {ks:List Nat} (h:Db w v ks) (hb:Below w.heap.size w w'):Db w' v ks:=by
 obtain⟨g,i,a,f⟩:=h;refine⟨g,i,a,fun j hjl => ?_⟩;obtain⟨c,a,b,d⟩:=f j hjl;exact⟨c,a,by have:=hb.size;omega,(hb.cell (p:=(OK c j)) b).trans d⟩
def En (k:Int) (x:ByteArray):ByteArray:=if k=6 then ⟨#[40]⟩++x++⟨#[41]⟩ else x
def Ct (g:Nat) (ns:List Ae) (K:List (List Nat)) (k:Nat) (x:ByteArray):Prop :=
 ∀ w:World,A6 w g ns K->Calls prog 116 #[.pointer (some (OK g 0)),.int .i64 (k:Int)] w fun e w'=>e = .returned (.string x)/\Below w.heap.size w w'
theorem Uf (g:Nat) (ns:List Ae) (K:List (List Nat)) (k:Nat) (x:ByteArray) (hk:k < ns.length) (_hl:ns.length<=12001) (hx:x.size<=100000000) (HE:Hid (Ct g ns K k x)) (w:World) (HP:Hid (A6 w g ns K)) :
  Calls prog 147 #[.pointer (some (OK g 0)),.int .i64 (k:Int)] w fun e w'=>e = .returned (.string (En ns[k].kind x))/\Below w.heap.size w w':=by
 obtain⟨q,n,l,m,j,o,p,h,f,b,_⟩:=HP.out;have c:=b k hk 0 OC;simp only[By,List.getElem?_cons_zero,Nat.add_zero]at c;clear b;by_cases h6:ns[k].kind=6
 ·rw[En,if_pos h6];rw[h6]at c;go_enter func147,ntmps147;go_wp2_with (go_at_call 116;refine(HE.out _ HP.out).mono ?_;rintro e i ⟨rfl,a⟩);go_ret;exact⟨rfl,a⟩
 ·rw[En,if_neg h6];have d:(ns[k].kind == 6)=false:=by simpa using h6
  go_enter func147,ntmps147;go_wp2_with (go_at_call 116;refine(HE.out _ HP.out).mono ?_;rintro e i ⟨rfl,a⟩);go_ret;exact⟨rfl,a⟩
def B6 : List ByteArray->List UInt8
 | []=>[]
 | x::r=>x.data.toList++r.flatMap (fun y=>[44,32]++y.data.toList)
def Gq (xs:List ByteArray):ByteArray:=⟨(B6 xs).toArray⟩
theorem Nu (xs:List ByteArray) (y:ByteArray):B6 (xs++[y])=(if xs=[] then [] else B6 xs++[44,32])++y.data.toList:=by
 cases xs with
 | nil=>simp[B6]
 | cons x r=>simp[B6]
def Ek (xs:List ByteArray):Nat:=(xs.map (fun x=>x.size+2)).sum
theorem X6 : ∀ xs:List ByteArray,(B6 xs).length<=Ek xs
 | []=>by simp[B6]
 | x::r=>by
  have h:∀ l:List ByteArray,(l.flatMap (fun y=>[44,32]++y.data.toList)).length<=Ek l:=by
   intro l;induction l with
   | nil=>simp
   | cons y l ih=>simp only[List.flatMap_cons,List.length_append,Ek,List.map_cons,List.sum_cons,List.length_cons,List.length_nil]at ih |-;have a:y.data.toList.length=y.size:=OF;omega
  have:=h r;simp only[B6,List.length_append,Ek,List.map_cons,List.sum_cons]at this |-
  have e:x.data.toList.length=x.size:=by simp
  omega
theorem X7 (a b:List ByteArray):Ek (a++b)=Ek a+Ek b:=by simp[Ek]
theorem Vu (xs:List ByteArray) (j:Nat):Ek (xs.take j)<=Ek xs:=by
 have h:=X7 (xs.take j) (xs.drop j);rw[List.take_append_drop]at h;omega
theorem Mv (x:ByteArray):Lib.strCells x=Lib.byteCells x.data.toList:=by
 first|rfl|simp[Lib.strCells,Lib.byteCells]
theorem Sq {w:World} {B e:Nat} {v:Value} (acc:List UInt8) (x:ByteArray) (h:w.ownsRow B e 1 v (acc.length+x.size) (Lib.byteCells acc++Lib.strCells x)):w.ownsRow B e 1 v (acc++x.data.toList).length (Lib.byteCells (acc++x.data.toList)):=by
 rw[Jt,<- Mv,List.length_append];have e:x.data.toList.length=x.size:=by simp
 rw[e];exact h
theorem Ql5 {w:World} {B e:Nat} {v:Value} (acc:List UInt8) (h:w.ownsRow B e 1 v (acc.length+(⟨#[44,32]⟩:ByteArray).size) (Lib.byteCells acc++Lib.strCells ⟨#[44,32]⟩)):w.ownsRow B e 1 v (acc++[44,32]).length (Lib.byteCells (acc++[44,32])):=Sq acc ⟨#[44,32]⟩ h
theorem Qr (g:Nat) (ns:List Ae) (K:List (List Nat)) (v:Value) (ks:List Nat) (xs:List ByteArray) (hlen:xs.length=ks.length) (hl:ks.length<=12001) (ht:Ek xs<=100000000)
    (HE:Hid (∀ j (h:j < ks.length) (h':j < xs.length),Ct g ns K ks[j] xs[j])) (w:World) (HP:Hid (A6 w g ns K)) (HR:Hid (Db w v ks)) :
    Calls prog 117 #[.pointer (some (OK g 0)),v] w fun e w'=>e = .returned (.string (Gq xs))/\Below w.heap.size w w':=by
  obtain⟨i0,V,E,F,G⟩:=info_parts Tryz.infoByte;obtain⟨ua,uc,rfl,u⟩:=HR.out;have HJ:Hid (∀ j (h:j < ks.length),∃ y,ua=some (OK y 0)/\y < w.heap.size/\w.cell? (OK y j)=some (.int .i64 (ks[j]:Int))):=u;clear u HR;obtain⟨n,S⟩:∃ n,Hid (ks.length=n):=⟨_,(rfl:ks.length=_)⟩;rw[S.out]at hl hlen;simp only[S.out];go_enter func117,ntmps117;go_wp2;go_loopw [5,6] (fun o i wr => ∃ (j:Nat) (acc:List UInt8),i = .int .i64 (j:Int)/\j<=n/\acc=B6 (xs.take j)/\wr.ownsRow w.heap.size 5 1 o acc.length (Lib.byteCells acc)/\Below w.heap.size w wr) (fun _ i _=>n - (intOf i).toNat);case atStart =>
    refine⟨0,[],rfl,by omega,by simp[B6], ?_,OP w _⟩;exact World.ownsRow_made (base:=w.heap.size) (e:=5) (size:=1) w #[] 0 ON OD rfl
  case round =>
    obtain⟨j,acc,rfl,I,b,l,m⟩:=hrel;have D:=m.size;have W:acc.length<=100000000:=by
      have h1:=X6 (xs.take j);have h2:=Vu xs j;rw[b];omega
    by_cases hjn:j < n
    · have O:j < ks.length:=(by rw[S.out];exact hjn);have A:j < xs.length:=OC;obtain⟨y,rfl,N,r⟩:=HJ.out j O;have hE:=HE.out j O A;have ac:xs[j].size<=100000000:=by
        have h1:=Vu xs (j+1);have e:Ek (xs.take (j+1))=Ek (xs.take j)+(xs[j].size+2):=by
          have L:xs.take j++[xs[j]]=xs.take (j+1):=(by rw[List.take_add_one,List.getElem?_eq_getElem A];rfl);rw[<- L,X7];simp[Ek]
        omega
      have M:=Nu (xs.take j) xs[j];have L:xs.take j++[xs[j]]=xs.take (j+1):=(by rw[List.take_add_one,List.getElem?_eq_getElem A];rfl);rw[L]at M;generalize xs[j]=x at *;generalize ks[j]=k at *;have HX:Hid (Ct g ns K k x):=hE;clear hE;have c1:wr.cell? (OK y j)=some (.int .i64 (k:Int)):=(m.cell (p:=(OK y j)) N).trans r;have U:Hid (A6 wr g ns K):=HP.out.below m;by_cases u:j=0
      · subst u;have J:Hid (acc++x.data.toList=B6 (xs.take (0+1))):=(by rw[Hid,M,b];simp[B6]);clear M b L;go_wp2_with (first
          | (go_at_call 116;refine(HX.out _ U.out).mono ?_;rintro e w2 ⟨rfl,q⟩
             have f:=My l q
             have c:=m.trans (q.mono D))
          | (at_builtin;refine Lib.wpList_append_own_string _ rfl _ _ 22 9 rfl w.heap.size 5 i0 underlying22 underlying9 V E F G _ _ _ rfl f x rfl OI OC c.size ?_;intro v' R d a B))
        have z:Below w.heap.size w R:=Below.grown c a c.size (fun j I=>(f.lt _ I).1);have T:Hid (R.ownsRow w.heap.size 5 1 v' (acc++x.data.toList).length (Lib.byteCells (acc++x.data.toList))):=by
          rw[Hid,Jt,<- Mv,List.length_append];simpa using d
        clear d a;go_wp2;go_roundw;case rel=>exact⟨0+1,_,by go_num,by omega,J.out,T.out,z⟩
        case measure=>simp[intOf];omega
      · have J:Hid ((acc++[44,32])++x.data.toList=B6 (xs.take (j+1))):=by
          rw[Hid,M,if_neg (by
            intro h
            have:=congrArg List.length h
            rw[List.length_take]at this
            simp only[List.length_nil]at this
            omega),b]
        clear M b L;have ab:0 < j:=OC;have Y:acc.length+(⟨#[44,32]⟩:ByteArray).size<=140737488355328:=by
          have:(⟨#[44,32]⟩:ByteArray).size=2:=rfl;omega
        have X:acc.length+(⟨#[44,32]⟩:ByteArray).size<=maxLen:=by
          have:(⟨#[44,32]⟩:ByteArray).size=2:=rfl;unfold maxLen;omega
        go_wp2_with (first
          | (go_at_call 116;refine(HX.out _ (HP.out.below s)).mono ?_;rintro e w2 ⟨rfl,q⟩
             have f:=My Q q
             have c:=s.trans (q.mono s.size))
          | (at_builtin;refine Lib.wpList_append_own_string _ rfl _ _ 22 9 rfl w.heap.size 5 i0 underlying22 underlying9 V E F G _ _ _ rfl f x rfl (by unfold maxLen;simp only[List.length_append,List.length_cons,List.length_nil];omega) (by simp only[List.length_append,List.length_cons,List.length_nil];omega) c.size ?_;intro v' R d a B)
          | (at_builtin;refine Lib.wpList_append_own_string _ rfl _ _ 22 9 rfl w.heap.size 5 i0 underlying22 underlying9 V E F G _ _ _ rfl l ⟨#[44,32]⟩ rfl X Y D ?_;intro vc H C t Z;have s:Below w.heap.size w H:=Below.grown m t D (fun j I=>(l.lt _ I).1);have Q:H.ownsRow w.heap.size 5 1 vc (acc++[44,32]).length (Lib.byteCells (acc++[44,32])):=Ql5 acc C;have cc:H.cell? (OK y j)=some (.int .i64 (k:Int)):=(s.cell (p:=(OK y j)) N).trans r))
        have z:Below w.heap.size w R:=Below.grown c a c.size (fun j I=>(f.lt _ I).1);have T:Hid (R.ownsRow w.heap.size 5 1 v' ((acc++[44,32])++x.data.toList).length (Lib.byteCells ((acc++[44,32])++x.data.toList))):=by
          rw[Hid,Jt,<- Mv,List.length_append];simpa using d
        clear d a;go_wp2;go_roundw;case rel=>exact⟨j+1,_,by go_num,by omega,J.out,T.out,z⟩
        case measure=>simp[intOf];omega
    · have J:Hid (acc=B6 xs):=(by rw[Hid,b,List.take_of_length_le OC]);have aa:=Lq (P:=prog) (src:=22) (dst:=9) underlying22 underlying5 underlying9 l;clear b;go_wp2;go_ret;exact⟨by rw[Gq,<- J.out];rfl,m⟩
end Go.Proofs.YtjlaedokfbcbpaaGreatDoor
