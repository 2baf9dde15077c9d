import Derived.Test.YtjlaedokfbcbpaaGreatDoorKTreeT
import Derived.Maps.OwnSet
import Derived.Lib.OthersKept
import Derived.Laws.RangeAny
set_option maxRecDepth 100000
set_option maxHeartbeats 2000000
namespace Go.Proofs.YtjlaedokfbcbpaaGreatDoor
open Go.RowKit Proofs.Tryz
def Lp (w:World) (r:List (Ab × Nat) × Int × Nat) (e:Ending) (w':World):Prop :=
 ∃ v,e = .returned (.tuple #[v,Qaf r.2.1 r.2.2])/\w'.ownsRow w.heap.size 113 5 v r.1.length (H8 r.1)/\Below w.heap.size w w'
theorem DdScanMx19 {P:Prop} (h:P:=by
 induction ts generalizing i with
 | nil=>simp at h
 | cons t r ih =>
  cases i with
  | zero =>
   simp only[H8,List.flatMap_cons,Nat.zero_mul,Nat.zero_add]
   rw[List.getElem?_append_left (by simp[Lh];omega)];rfl
  | succ i =>
   simp only[H8,List.flatMap_cons]
   rw[List.getElem?_append_right (by simp[Lh];omega)]
   have e:(i+1) * 5+j - (Lh t).length=i * 5+j:=by simp[Lh];omega
   rw[e]
   exact ih i (by simpa using h)
 ):P:=h
end Go.Proofs.YtjlaedokfbcbpaaGreatDoor
namespace Go.Proofs.YtjlaedokfbcbpaaGreatDoor
open Proofs.Tryz
open Go.RowKit Go.Maps Go.WideMaps
def Fd : List (List UInt8 × Int):=[([98,111,111,108],1),([116,101,120,116],2),([117,56],3),([117,49,54],4),([117,51,50],5),([117,54,52],6),([105,56],7),([105,49,54],8),([105,51,50],9),([105,54,52],10),([102,110],0),([108,101,116],0),([105,102],0),([101,108,115,101],0),([119,104,105,108,101],0),([98,114,101,97,107],0),([99,111,110,116,105,110,117,101],0),([114,101,116,117,114,110],0),([102,97,105,108],0),([119,114,105,116,101],0),([115,97,121],0),([116,114,117,101],0),([102,97,108,115,101],0),([114,101,97,100],0),([104,97,115],0),([108,105,115,116],0),([116,111,111,108],0),([97,114,103],0),([108,101,110],0),([97,116],0),([99,117,116],0),([102,105,110,100],0),([99,104,114],0),([100,101,99],0),([110,117,109],0)]
def Hc : DataW Unit:=Fd.foldl (fun D p=>D.put (.string p.1) (.lit (.int .i64 p.2))) (.map [])
theorem Sh {H:Type} {P:Program} (w:World) {ops:Array Oper} {rest:List Oper} {o:Oper} {a:Act} {Q:Exit->Act->World->Prop}
  (hg:o.guard=none) (m x v:Operand) (t:TypeId) (hop:o.op=Op.insert t m x v)
  (k e:TypeId) (K:Keyed P k) (ht:P.underlying t=some (.map k e)) (R:Value->Option (DataW H × List MemPlace)) (b n:Nat) (D:DataW H)
  (hm:a.eval m = .map (some b)) (hown:w.ownsMap P k R b n D) (hn:n < maxLen) (key val:Value) (kl:Lit) (hx:a.eval x=key) (hv:a.eval v=val) (hkey:keyOf P k key=some kl)
  (d:DataW H) (ps:List MemPlace) (hval:R val=some (d,ps))
  (hK:∀ w',w'.ownsMap P k R b (n+1) (D.put kl d)->w.grownBy w' (some b)->wpList P ops Q rest (a.put o.dst undef) w') :
  wpList P ops Q (o::rest) a w:=by
 refine wpList_plain hg fun K' hK' => ?_
 obtain⟨w',c,f,g⟩:=hown.update K ht hn hkey hval;unfold Oper.wp;simp[execOp,hop,hm,hx,hv,c,Result.andThen];exact hK' _ _ (hK w' f g)
theorem Tryz.lawStr : Keyed prog 9:=string_keyed underlying9
theorem Tryz.zeroInt (w:World):(zeroValue 3).run prog w = .ok (.int .i64 0) w:=OE
theorem Qm6 {B:Nat} {w W W':World} (h:Below B w W) (hs:B < W.heap.size) (g:W.grownBy W' (some B)):Below B w W'/\B < W'.heap.size :=
 ⟨h.grown g OC (fun j hj=>by cases hj;exact ON),by have:=g.size;omega⟩
theorem takenWords_any (w:World) :
  Calls prog 30 #[] w fun e w'=>e = .returned (.map (some w.heap.size))/\w'.ownsMap prog 9 (plainElem prog 3) w.heap.size 35 Hc/\Below w.heap.size w w':=by
 have f:=@run_makeMap prog;have d:(w.alloc (.map #[] 0)).ownsMap prog 9 (plainElem (H:=Unit) prog 3) w.heap.size 0 (.map []):=World.ownsMap_made w _ _ _;have c:Below w.heap.size w (w.alloc (.map #[] 0))/\w.heap.size < (w.alloc (.map #[] 0)).heap.size:=⟨OP _ _,by simp⟩;go_enter func30,ntmps30;go_wp2_with (refine Sh _ rfl _ _ _ 82 rfl 9 3 Tryz.lawStr underlying82 _ w.heap.size _ _ rfl d OD _ _ _ rfl rfl (keyOf_string_mk underlying9 OD) _ [] (plainElem_int underlying3 OD) ?_;intro g b a;replace d:=b;replace c:=Qm6 c.1 c.2 a;clear b a);go_ret;exact⟨rfl,d,c.1⟩
end Go.Proofs.YtjlaedokfbcbpaaGreatDoor
namespace Go.Proofs.YtjlaedokfbcbpaaGreatDoor
open Proofs.Tryz
open Go.RowKit Go.Maps Go.WideMaps
theorem Ty (D:DataW Unit) (h:IsMap D) (k:Lit) (d:DataW Unit):IsMap (D.put k d):=by
 obtain⟨a,rfl⟩:=h;exact⟨_,rfl⟩
theorem Xg (k:List UInt8):∀ (l:List (List UInt8 × Int)) (D:DataW Unit) (r:Int),IsMap D->D.atKey (.string k) (.lit (.int .i64 0)) = .lit (.int .i64 r) ->
  (l.foldl (fun D p=>D.put (.string p.1) (.lit (.int .i64 p.2))) D).atKey (.string k) (.lit (.int .i64 0)) = .lit (.int .i64 (l.foldl (fun r p=>if p.1=k then p.2 else r) r))
 | [],_,_,_,h=>h
 | p::l,D,r,hD,h=>by
  rw[List.foldl_cons,List.foldl_cons]
  refine Xg k l _ _ (Ty D hD _ _) ?_
  by_cases hp:p.1=k
  ·rw[if_pos hp,hp,atKey_put_same hD (by trivial)]
  ·rw[if_neg hp,atKey_put_other (by intro e;exact hp (by injection e with e1;exact e1.symm)),h]
theorem Vb (k:List UInt8):∀ (l:List (List UInt8 × Int)) (D:DataW Unit) (r:Bool),IsMap D->Maps.has D (.string k)=r ->
  Maps.has (l.foldl (fun D p=>D.put (.string p.1) (.lit (.int .i64 p.2))) D) (.string k)=l.foldl (fun r p=>if p.1=k then true else r) r
 | [],_,_,_,h=>h
 | p::l,D,r,hD,h=>by
  rw[List.foldl_cons,List.foldl_cons]
  refine Vb k l _ _ (Ty D hD _ _) ?_
  by_cases hp:p.1=k
  ·rw[if_pos hp,hp,has_put_same hD (by trivial)]
  ·rw[if_neg hp,has_put_other (by intro e;exact hp (by injection e with e1;exact e1.symm)),h]
theorem Mo (k:List UInt8):Dp (Aj k)=if k=[98,111,111,108] then 1 else if k=[116,101,120,116] then 2 else if k=[117,56] then 3 else if k=[117,49,54] then 4 else if k=[117,51,50] then 5 else if k=[117,54,52] then 6 else if k=[105,56] then 7 else if k=[105,49,54] then 8 else if k=[105,51,50] then 9 else if k=[105,54,52] then 10 else 0:=by
 have b:(Aj k).toList=k:=by rw[ByteArray.toList_eq];rfl
 have a:∀ m:List UInt8,((⟨m.toArray⟩:ByteArray).toList == (Aj k).toList)=true ↔ k=m:=fun m=>by rw[b,ByteArray.toList_eq];show (m == k)=true ↔ k=m;rw[beq_iff_eq];exact eq_comm
 unfold Dp;simp only[I9];rw[show Ag 1=⟨[98,111,111,108].toArray⟩ from rfl];rw[show Ag (1+1)=⟨[116,101,120,116].toArray⟩ from rfl];rw[show Ag (1+1+1)=⟨[117,56].toArray⟩ from rfl];rw[show Ag (1+1+1+1)=⟨[117,49,54].toArray⟩ from rfl];rw[show Ag (1+1+1+1+1)=⟨[117,51,50].toArray⟩ from rfl];rw[show Ag (1+1+1+1+1+1)=⟨[117,54,52].toArray⟩ from rfl];rw[show Ag (1+1+1+1+1+1+1)=⟨[105,56].toArray⟩ from rfl];rw[show Ag (1+1+1+1+1+1+1+1)=⟨[105,49,54].toArray⟩ from rfl];rw[show Ag (1+1+1+1+1+1+1+1+1)=⟨[105,51,50].toArray⟩ from rfl];rw[show Ag (1+1+1+1+1+1+1+1+1+1)=⟨[105,54,52].toArray⟩ from rfl];simp only[a];rfl
theorem Qbe (k:List UInt8):Dp (Aj k)≠0 ↔ k ∈ Mp:=by
 rw[Mo];simp only[Mp,List.mem_cons,List.not_mem_nil,or_false];by_cases h0:k=[98,111,111,108]
 ·simp[h0]
 by_cases h1:k=[116,101,120,116]
 ·simp[h1]
 by_cases h2:k=[117,56]
 ·simp[h2]
 by_cases h3:k=[117,49,54]
 ·simp[h3]
 by_cases h4:k=[117,51,50]
 ·simp[h4]
 by_cases h5:k=[117,54,52]
 ·simp[h5]
 by_cases h6:k=[105,56]
 ·simp[h6]
 by_cases h7:k=[105,49,54]
 ·simp[h7]
 by_cases h8:k=[105,51,50]
 ·simp[h8]
 by_cases h9:k=[105,54,52]
 ·simp[h9]
 simp[h0,h1,h2,h3,h4,h5,h6,h7,h8,h9]
theorem Y8 (k:List UInt8):Gi (Aj k) 12 1=true ↔ k ∈ Oh:=by
 have b:(Aj k).toList=k:=by rw[ByteArray.toList_eq];rfl
 have a:∀ m:List UInt8,((⟨m.toArray⟩:ByteArray).toList == (Aj k).toList)=decide (k=m):=fun m=>by
  rw[b,ByteArray.toList_eq];show (m == k)=decide (k=m)
  rw[Bool.eq_iff_iff];simp only[beq_iff_eq,decide_eq_true_eq];exact eq_comm
 simp only[Gi];rw[show Av 1=⟨[114,101,97,100].toArray⟩ from rfl];rw[show Av (1+1)=⟨[104,97,115].toArray⟩ from rfl];rw[show Av (1+1+1)=⟨[108,105,115,116].toArray⟩ from rfl];rw[show Av (1+1+1+1)=⟨[116,111,111,108].toArray⟩ from rfl];rw[show Av (1+1+1+1+1)=⟨[97,114,103].toArray⟩ from rfl];rw[show Av (1+1+1+1+1+1)=⟨[108,101,110].toArray⟩ from rfl];rw[show Av (1+1+1+1+1+1+1)=⟨[97,116].toArray⟩ from rfl];rw[show Av (1+1+1+1+1+1+1+1)=⟨[99,117,116].toArray⟩ from rfl];rw[show Av (1+1+1+1+1+1+1+1+1)=⟨[102,105,110,100].toArray⟩ from rfl];rw[show Av (1+1+1+1+1+1+1+1+1+1)=⟨[99,104,114].toArray⟩ from rfl];rw[show Av (1+1+1+1+1+1+1+1+1+1+1)=⟨[100,101,99].toArray⟩ from rfl];rw[show Av (1+1+1+1+1+1+1+1+1+1+1+1)=⟨[110,117,109].toArray⟩ from rfl];simp only[a,Oh,Bool.or_eq_true,decide_eq_true_eq,List.mem_cons,List.not_mem_nil,Bool.false_eq_true]
theorem Pv (k:List UInt8):Dk (Aj k)=true ↔ k ∈ Fd.map Prod.fst:=by
 have b:(Aj k).toList=k:=by rw[ByteArray.toList_eq];rfl
 have d:Fd.map Prod.fst=Mp++(Cc++Oh):=rfl;have a:Cc.any (fun p=>p == (Aj k).toList)=true ↔ k ∈ Cc:=by
  rw[b,List.any_eq_true];constructor
  ·rintro⟨x,f,h⟩;rw[<- beq_iff_eq.1 h];exact f
  ·intro h;exact⟨k,h,by simp⟩
 have c:(Dp (Aj k) != 0)=true ↔ k ∈ Mp:=by rw[bne_iff_ne];exact Qbe k
 rw[d,List.mem_append,List.mem_append,Dk,Bool.or_eq_true,Bool.or_eq_true,c,a,Y8];constructor
 ·rintro((h|h)|h)
  ·exact .inl h
  ·exact .inr (.inr h)
  ·exact .inr (.inl h)
 ·rintro(h|h|h)
  ·exact .inl (.inl h)
  ·exact .inr h
  ·exact .inl (.inr h)
theorem Va (k:List UInt8):∀ (l:List (List UInt8 × Int)) (r:Bool),l.foldl (fun r p=>if p.1=k then true else r) r=true ↔ r=true\/k ∈ l.map Prod.fst
 | [],r=>by simp
 | p::l,r=>by
  rw[List.foldl_cons,Va k l]
  by_cases hp:p.1=k
  ·simp[hp]
  ·rw[if_neg hp];simp only[List.map_cons,List.mem_cons]
   constructor
   ·rintro(h|h)
    ·exact .inl h
    ·exact .inr (.inr h)
   ·rintro(h|h|h)
    ·exact .inl h
    ·exact absurd h.symm hp
    ·exact .inr h
theorem Py (k:List UInt8):Maps.has Hc (.string k)=Dk (Aj k):=by
 rw[Hc,Vb k Fd (.map []) false ⟨[],rfl⟩ rfl,Bool.eq_iff_iff,Va,Pv];simp
theorem Qeu (k:List UInt8):(Hc).atKey (.string k) (.lit (.int .i64 0)) = .lit (.int .i64 (Dp (Aj k))):=by
 rw[Hc,Xg k Fd (.map []) 0 ⟨[],rfl⟩ rfl,Mo];congr 2;simp only[Fd,List.foldl_cons,List.foldl_nil];by_cases h0:k=[98,111,111,108]
 ·subst h0;decide
 by_cases h1:k=[116,101,120,116]
 ·subst h1;decide
 by_cases h2:k=[117,56]
 ·subst h2;decide
 by_cases h3:k=[117,49,54]
 ·subst h3;decide
 by_cases h4:k=[117,51,50]
 ·subst h4;decide
 by_cases h5:k=[117,54,52]
 ·subst h5;decide
 by_cases h6:k=[105,56]
 ·subst h6;decide
 by_cases h7:k=[105,49,54]
 ·subst h7;decide
 by_cases h8:k=[105,51,50]
 ·subst h8;decide
 by_cases h9:k=[105,54,52]
 ·subst h9;decide
 have a:¬ [98,111,111,108]=k:=fun e=>h0 e.symm
 have b:¬ [116,101,120,116]=k:=fun e=>h1 e.symm
 have c:¬ [117,56]=k:=fun e=>h2 e.symm
 have d:¬ [117,49,54]=k:=fun e=>h3 e.symm
 have f:¬ [117,51,50]=k:=fun e=>h4 e.symm
 have g:¬ [117,54,52]=k:=fun e=>h5 e.symm
 have h:¬ [105,56]=k:=fun e=>h6 e.symm
 have i:¬ [105,49,54]=k:=fun e=>h7 e.symm
 have j:¬ [105,51,50]=k:=fun e=>h8 e.symm
 have l:¬ [105,54,52]=k:=fun e=>h9 e.symm
 simp only[if_neg h0,if_neg h1,if_neg h2,if_neg h3,if_neg h4,if_neg h5,if_neg h6,if_neg h7,if_neg h8,if_neg h9,if_neg a,if_neg b,if_neg c,if_neg d,if_neg f,if_neg g,if_neg h,if_neg i,if_neg j,if_neg l,ite_self]
open Go.RowKit
theorem Xh (r:Int) (h:128<=r):Bp r=false/\B4 r=false/\(r != 95)=true:=by
 refine⟨?_, ?_, ?_⟩
 ·simp[Bp];omega
 ·simp[B4];omega
 ·simp;omega
theorem Qg2 (r:Int) (h:Dc r=false):Bp r=false/\B4 r=false/\(r != 95)=true:=by
 simp[Dc]at h;simp[h]
theorem DdScanQx58 {P:Prop} (h:P:=by
 go_wp2_with (first
  | (go_at_call 83;refine(isLetter_any _ _).mono ?_;rintro e w' ⟨rfl,rfl⟩;rw[q])
  | (go_at_call 85;refine(isDigit_any _ _).mono ?_;rintro e w' ⟨rfl,rfl⟩;rw[t]))
 go_ret
 exact⟨Iv v.out,b⟩
 ):P:=h
theorem wordSize_any (s:ByteArray) (w:World) (hs:s.size<=1048576) :
  Calls prog 103 #[.string s] w fun e w'=>e = .returned (.int .i64 (D5 s 0:Int))/\Below w.heap.size w w':=by
 have p:=Sf s 0;go_enter func103,ntmps103;go_wp2;go_loopw [3,4] (fun _ _ wr => ∃ a:Nat,a<=s.size/\a - 0<=D5 s 0/\wr.heap[w.heap.size]? = some (.stringIter s a)/\Below w.heap.size w wr) (fun _ _ wr=>s.size - wr.iterPos w.heap.size);case atStart=>exact⟨0,by omega,by omega,World.iter_heap w s 0,OP _ _⟩
 case round =>
  obtain⟨a,A,g,d,i⟩:=hrel;have o:=iterPos_of d;by_cases hp:a < s.size
  ·by_cases ha:s[a].toNat < 128
   ·have j:∀ ty,(Instr.next (.pointer (some (OK w.heap.size 0))) true ty).run prog wr=_:=fun ty=>Lib.run_next_ascii_at wr w.heap.size s a ty d hp ha
    have c:=Lib.iterAt_heap wr w.heap.size s a (a+1) d;have b:=Lib.below_iterAt i (k:=w.heap.size) ON s (a+1);cases ht:Dc (s[a].toNat:Int) with
    | true =>
     have z:=Qcp s 0 a hp OC g ht;obtain⟨n,f⟩:∃ n,n=wr.iterAt w.heap.size s (a+1):=⟨_,rfl⟩;rw[<- f]at j c b;clear f d i;have m:=ht;simp only[Dc]at m;cases q:Bp (s[a].toNat:Int) <;> cases t:B4 (s[a].toNat:Int) <;> cases x:((s[a].toNat:Int) != 95)
     all_goals try (exfalso;rw[q,t]at m;simp at m x;omega)
     all_goals
      clear m;go_wp2_with (first
       | (go_at_call 83;refine(isLetter_any _ _).mono ?_;rintro e w' ⟨rfl,rfl⟩;rw[q])
       | (go_at_call 85;refine(isDigit_any _ _).mono ?_;rintro e w' ⟨rfl,rfl⟩;rw[t]))
      go_roundw;case rel=>exact⟨a+1,by omega,z,c,b⟩
      case measure=>rw[iterPos_of c,o];omega
    | false =>
     have l:=Pu s 0 a OC g (fun _=>ht);obtain⟨q,t,x⟩:=Qg2 _ ht;have v:Hid ((a:Int)=(D5 s 0:Int)):=(by rw[Hid];omega);clear l g p;obtain⟨n,f⟩:∃ n,n=wr.iterAt w.heap.size s (a+1):=⟨_,rfl⟩;rw[<- f]at j c b;clear f d i;exact DdScanQx58
   ·have j:∀ ty,(Instr.next (.pointer (some (OK w.heap.size 0))) true ty).run prog wr=_:=fun ty=>Lib.run_next_any_at wr w.heap.size s a ty d hp
    have y:=decode_high s a hp OC;have c:=Lib.iterAt_heap wr w.heap.size s a (a+(Utf8.decode s a).2) d;have b:=Lib.below_iterAt i (k:=w.heap.size) ON s (a+(Utf8.decode s a).2);have u:Dc (s[a].toNat:Int)=false:=(by simp[Dc,Bp,B4];omega);have l:=Pu s 0 a OC g (fun _=>u);obtain⟨q,t,x⟩:=Xh ((Utf8.decode s a).1:Int) OC;have v:Hid ((a:Int)=(D5 s 0:Int)):=(by rw[Hid];omega);clear l g p u y;obtain⟨n,f⟩:∃ n,n=wr.iterAt w.heap.size s (a+(Utf8.decode s a).2):=⟨_,rfl⟩;rw[<- f]at j c b;clear f d i;generalize ((Utf8.decode s a).1:Int)=r at *;exact DdScanQx58
  ·have j:∀ ty,(Instr.next (.pointer (some (OK w.heap.size 0))) true ty).run prog wr=_:=fun ty=>Lib.run_next_end_at wr w.heap.size s a ty d hp
   have l:=Pu s 0 a OC g (fun h=>absurd h hp);have v:Hid ((s.size:Int)=(D5 s 0:Int)):=(by rw[Hid];omega);clear l g p;go_wp2;go_ret;exact⟨Iv v.out,i⟩
theorem digitsSize_any (s:ByteArray) (w:World) (hs:s.size<=1048576) :
  Calls prog 120 #[.string s] w fun e w'=>e = .returned (.int .i64 (Ar s.data.toList:Int))/\Below w.heap.size w w':=by
 have o:=Qca s;go_enter func120,ntmps120;go_wp2;go_loopw [3,4] (fun _ _ wr => ∃ a:Nat,a<=s.size/\a<=Ar s.data.toList/\wr.heap[w.heap.size]? = some (.stringIter s a)/\Below w.heap.size w wr) (fun _ _ wr=>s.size - wr.iterPos w.heap.size);case atStart=>exact⟨0,by omega,by omega,World.iter_heap w s 0,OP _ _⟩
 case round =>
  obtain⟨a,x,g,d,i⟩:=hrel;have n:=iterPos_of d;by_cases hp:a < s.size
  ·by_cases ha:s[a].toNat < 128
   ·have j:∀ ty,(Instr.next (.pointer (some (OK w.heap.size 0))) true ty).run prog wr=_:=fun ty=>Lib.run_next_ascii_at wr w.heap.size s a ty d hp ha
    have c:=Lib.iterAt_heap wr w.heap.size s a (a+1) d;have b:=Lib.below_iterAt i (k:=w.heap.size) ON s (a+1);cases ht:B4 (s[a].toNat:Int) with
    | true =>
     have v:=Qd5 s a hp g ht;obtain⟨m,f⟩:∃ m,m=wr.iterAt w.heap.size s (a+1):=⟨_,rfl⟩;rw[<- f]at j c b;clear f d i;go_wp2_with (go_at_call 85;refine(isDigit_any _ _).mono ?_;rintro e w' ⟨rfl,rfl⟩;rw[ht]);go_roundw;case rel=>exact⟨a+1,by omega,v,c,b⟩
     case measure=>rw[iterPos_of c,n];omega
    | false =>
     have l:=Qx s a g (fun _=>ht);have t:=ht;have p:Hid ((a:Int)=(Ar s.data.toList:Int)):=(by rw[Hid];omega);clear l g o;obtain⟨m,f⟩:∃ m,m=wr.iterAt w.heap.size s (a+1):=⟨_,rfl⟩;rw[<- f]at j c b;clear f d i;go_wp2_with (go_at_call 85;refine(isDigit_any _ _).mono ?_;rintro e w' ⟨rfl,rfl⟩;rw[t]);go_ret;exact⟨Iv p.out,b⟩
   ·have j:∀ ty,(Instr.next (.pointer (some (OK w.heap.size 0))) true ty).run prog wr=_:=fun ty=>Lib.run_next_any_at wr w.heap.size s a ty d hp
    have u:=decode_high s a hp OC;have c:=Lib.iterAt_heap wr w.heap.size s a (a+(Utf8.decode s a).2) d;have b:=Lib.below_iterAt i (k:=w.heap.size) ON s (a+(Utf8.decode s a).2);have q:B4 (s[a].toNat:Int)=false:=(by simp[B4];omega);have l:=Qx s a g (fun _=>q);obtain⟨_,t,_⟩:=Xh ((Utf8.decode s a).1:Int) OC;have p:Hid ((a:Int)=(Ar s.data.toList:Int)):=(by rw[Hid];omega);clear l g o q u;obtain⟨m,f⟩:∃ m,m=wr.iterAt w.heap.size s (a+(Utf8.decode s a).2):=⟨_,rfl⟩;rw[<- f]at j c b;clear f d i;generalize ((Utf8.decode s a).1:Int)=r at *;go_wp2_with (go_at_call 85;refine(isDigit_any _ _).mono ?_;rintro e w' ⟨rfl,rfl⟩;rw[t]);go_ret;exact⟨Iv p.out,b⟩
  ·have j:∀ ty,(Instr.next (.pointer (some (OK w.heap.size 0))) true ty).run prog wr=_:=fun ty=>Lib.run_next_end_at wr w.heap.size s a ty d hp
   have l:=Qx s a g (fun h=>absurd h hp);have p:Hid ((s.size:Int)=(Ar s.data.toList:Int)):=(by rw[Hid];omega);clear l g o;go_wp2;go_ret;exact⟨Iv p.out,i⟩
end Go.Proofs.YtjlaedokfbcbpaaGreatDoor
namespace Go.Proofs.YtjlaedokfbcbpaaGreatDoor
open Proofs.Tryz
open Go.RowKit Go.Maps Go.WideMaps
theorem Qbc {H:Type} {P:Program} {k:TypeId} {R:Value->Option (DataW H × List MemPlace)} {b n:Nat} {D:DataW H} {w w':World} (h:w.ownsMap P k R b n D) (hb:Below w.heap.size w w'):w'.ownsMap P k R b n D:=by
 have c:=h.lt;obtain⟨d,a,f,rest⟩:=h;exact⟨d,a,(hb.block b c).trans f,rest⟩
def Ip (w:World) (b:Nat):Prop:=w.ownsMap prog 9 (plainElem (H:=Unit) prog 3) b 35 Hc
theorem isType_any (b:Int) (w:World) :
  Calls prog 65 #[.int .i64 b] w fun e w'=>e = .returned (.bool (decide (1<=b) && decide (b<=10)))/\w=w':=by
 go_enter func65,ntmps65;go_wp2;all_goals go_ret
 all_goals exact⟨by simp[decide_eq_true_eq, *] <;> omega,rfl⟩
theorem isIntType_any (b:Int) (w:World) :
  Calls prog 62 #[.int .i64 b] w fun e w'=>e = .returned (.bool (decide (3<=b) && decide (b<=10)))/\w=w':=by
 go_enter func62,ntmps62;go_wp2;all_goals go_ret
 all_goals exact⟨by simp[decide_eq_true_eq, *] <;> omega,rfl⟩
theorem isIntType_is (t:Int) (b:Bool) (h:Hid ((decide (3<=t) && decide (t<=10))=b)) (w:World) :
  Calls prog 62 #[.int .i64 t] w fun e w'=>e = .returned (.bool b)/\w=w':=by
 rw[<- h.out];exact isIntType_any t w
theorem isType_is (t:Int) (b:Bool) (h:Hid ((decide (1<=t) && decide (t<=10))=b)) (w:World) :
  Calls prog 65 #[.int .i64 t] w fun e w'=>e = .returned (.bool b)/\w=w':=by
 rw[<- h.out];exact isType_any t w
theorem Qam {α:Type} (p:α->Bool):∀ l:List α,((l.takeWhile p).length=l.length) ↔ l.all p=true
 | []=>by simp
 | a::r=>by
  cases h:p a with
  | true=>simp[h];simpa using Qam p r
  | false=>simp[h]
theorem Qet (s:ByteArray):((D5 s 0:Int) == (s.size:Int))=s.data.toList.all (fun c=>Dc (c.toNat:Int)):=by
 rw[Bool.eq_iff_iff];have h:=Qam B5 s.data.toList;simp only[D5,List.drop_zero,A5,beq_iff_eq];have b:s.data.toList.length=s.size:=by simp
 rw[b]at h;constructor
 ·intro a;exact h.1 OC
 ·intro a;have:=h.2 a;omega
theorem isName_any (s:ByteArray) (b:Nat) (w:World) (hs:s.size<=1048576) (hM:Ip w b) :
    Calls prog 64 #[.string s,.map (some b)] w fun e w'=>e = .returned (.bool (A0 s))/\Below w.heap.size w w':=by
  have o:=hM.lt;by_cases h1:0 < s.size
  · have k:(s.toList == [])=false:=by
      rw[ByteArray.toList_eq];cases hl:s.data.toList with
      | nil => have : s.data.toList.length = s.size:=by simp
               rw[hl]at this;simp at this;omega
      | cons a r=>rfl
    have p:s.toList.isEmpty=false:=by
      rw[ByteArray.toList_eq];cases hl:s.data.toList with
      | nil => have : s.data.toList.length = s.size:=by simp
               rw[hl]at this;simp at this;omega
      | cons a r=>rfl
    have f:IntKind.i32.wrap (s[0].toNat:Int)=(s[0].toNat:Int):=(by have:=s[0].toNat_lt;rw[IntKind.wrap_i32];omega);by_cases h2:s.size<=30
    · cases hl:Bp (s[0].toNat:Int) with
      | false =>
        have d:Hid (A0 s=false):=Pp s h1 hl;go_enter func64,ntmps64;go_wp2_with (go_at_call 83;refine(isLetter_any _ _).mono ?_;rintro e w' ⟨rfl,rfl⟩;first|rw[hl]|rw[f,hl]);go_ret;exact⟨Al d.out.symm,OO _⟩
      | true =>
        have h:s.size<=maxLen:=OI;have g:Aj s.data.toList=s:=rfl;cases ht:Dk s with
        | true =>
          have d:Hid (A0 s=false):=Ql s ht;have i:Hid (Maps.has Hc (.string s.data.toList)=true):=(by rw[Hid,Py,g];exact ht);go_enter func64,ntmps64;go_wp2_with (first
            | (go_at_call 83;refine(isLetter_any _ _).mono ?_;rintro e w' ⟨rfl,rfl⟩;first|rw[hl]|rw[f,hl])
            | (at_lookup;refine wpList_lookup_own_ok_int _ rfl _ _ 82 rfl 9 3 .i64 Tryz.lawStr underlying82 underlying3 (Tryz.zeroInt _) b 35 _ rfl hM _ _ rfl (keyOf_string_mk underlying9 h) ?_;intro c j m;rw[i.out]))
          go_ret;exact⟨Al d.out.symm,OO _⟩
        | false =>
          have d:Hid (A0 s=((D5 s 0:Int) == (s.size:Int))):=(by rw[Hid,Qet];exact Q9 s h1 h2 hl ht);have i:Hid (Maps.has Hc (.string s.data.toList)=false):=(by rw[Hid,Py,g];exact ht);go_enter func64,ntmps64;go_wp2_with (first
            | (go_at_call 83;refine(isLetter_any _ _).mono ?_;rintro e w' ⟨rfl,rfl⟩;first|rw[hl]|rw[f,hl])
            | (at_lookup;refine wpList_lookup_own_ok_int _ rfl _ _ 82 rfl 9 3 .i64 Tryz.lawStr underlying82 underlying3 (Tryz.zeroInt _) b 35 _ rfl hM _ _ rfl (keyOf_string_mk underlying9 h) ?_;intro c j m;rw[i.out])
            | (go_at_call 103;refine(wordSize_any _ _ hs).mono ?_;rintro e t ⟨rfl,n⟩))
          go_ret;exact⟨Al d.out.symm,n⟩
    · have d:Hid (A0 s=false):=Lg s (.inr OC);go_enter func64,ntmps64;go_wp2_with fail;go_ret;exact⟨Al d.out.symm,OO _⟩
  · have d:Hid (A0 s=false):=Lg s (.inl OC);have l:s.data.toList.length=s.size:=OF;have k:s.data.toList=[]:=List.eq_nil_of_length_eq_zero OC;have q:s.toList.isEmpty=true:=(by rw[ByteArray.toList_eq,k];rfl);clear k l;go_enter func64,ntmps64;go_wp2_with fail;go_ret;exact⟨Al d.out.symm,OO _⟩
theorem isName_is (s:ByteArray) (c:Bool) (h:Hid (A0 s=c)) (b:Nat) (w:World) (hs:s.size<=1048576) (hM:Ip w b) :
  Calls prog 64 #[.string s,.map (some b)] w fun e w'=>e = .returned (.bool c)/\Below w.heap.size w w':=by
 rw[<- h.out];exact isName_any s b w hs hM
end Go.Proofs.YtjlaedokfbcbpaaGreatDoor
namespace Go.Proofs.YtjlaedokfbcbpaaGreatDoor
open Proofs.Tryz
open Go.RowKit Go.Maps Go.WideMaps
def Au (d:Ae):Bool :=
 if d.kind=1 then decide (3<=d.type) && decide (d.type<=10) && decide (IntKind.u64.wrap d.n<=Ce d.type)
 else if d.kind=2 then decide (d.text.size<=3000)
 else if d.kind=4\/d.kind=7\/d.kind=10\/d.kind=11 then A0 d.text
 else if d.kind=5 then decide (1<=d.op) && decide (d.op<=3)
 else if d.kind=6 then decide (1<=d.op) && decide (d.op<=18)
 else if d.kind=8 then decide (1<=d.op) && decide (d.op<=12)
 else if d.kind=9 then decide (3<=d.type) && decide (d.type<=10)
 else if d.kind=22 then A0 d.text && (decide (1<=d.type) && decide (d.type<=10))
 else if d.kind=23 then A0 d.text && ((decide (1<=d.type) && decide (d.type<=10)) || (d.type == 0))
 else true
def E8 (w:World):Prop:=(∀ t:Nat,3<=t->t<=10->w.cell? (OK 1 t)=some (.int .u64 (Ce (t:Int))))/\1 < w.heap.size
theorem usesRight_2 (o t y:Int) (x:ByteArray) (k:Int) (b:Nat) (w:World) :
  Calls prog 31 #[Af ⟨2,o,t,y,x,k⟩,.map (some b)] w fun e w'=>e = .returned (.bool (Au ⟨2,o,t,y,x,k⟩))/\Below w.heap.size w w':=by
 have a:Hid (Au ⟨2,o,t,y,x,k⟩=decide ((x.size:Int)<=3000)):=by rw[Hid,Bool.eq_iff_iff];simp[Au];omega
 simp only[Af];go_enter func31,ntmps31;go_wp2;go_ret;exact⟨Al a.out.symm,OP w _⟩
theorem usesRight_av (kc:Int) (hkc:kc=5\/kc=6\/kc=8) (o t y:Int) (x:ByteArray) (k:Int) (b:Nat) (w:World) :
  Calls prog 31 #[Af ⟨kc,o,t,y,x,k⟩,.map (some b)] w fun e w'=>e = .returned (.bool (Au ⟨kc,o,t,y,x,k⟩))/\Below w.heap.size w w':=by
 simp only[Af];rcases hkc with rfl|rfl|rfl
 all_goals
  go_enter func31,ntmps31;go_wp2;all_goals go_ret
  all_goals exact⟨Al (by go_light;simp_all [Au] <;> omega),OP w _⟩
theorem usesRight_9 (o t y:Int) (x:ByteArray) (k:Int) (b:Nat) (w:World) :
  Calls prog 31 #[Af ⟨9,o,t,y,x,k⟩,.map (some b)] w fun e w'=>e = .returned (.bool (Au ⟨9,o,t,y,x,k⟩))/\Below w.heap.size w w':=by
 have a:Hid (Au ⟨9,o,t,y,x,k⟩=(decide (3<=t) && decide (t<=10))):=by rw[Hid];simp[Au]
 simp only[Af];go_enter func31,ntmps31;go_wp2_with (go_at_call 62;refine(isIntType_any _ _).mono ?_;rintro e w' ⟨rfl,rfl⟩);go_ret;exact⟨Al a.out.symm,OP w _⟩
theorem usesRight_bv (kc:Int) (hkc:kc=4\/kc=7\/kc=10\/kc=11) (o t y:Int) (x:ByteArray) (k:Int) (b:Nat) (w:World) (hs:x.size<=1048576) (hM:Ip w b) :
  Calls prog 31 #[Af ⟨kc,o,t,y,x,k⟩,.map (some b)] w fun e w'=>e = .returned (.bool (Au ⟨kc,o,t,y,x,k⟩))/\Below w.heap.size w w':=by
 have c:Hid (Au ⟨kc,o,t,y,x,k⟩=A0 x):=by rw[Hid];rcases hkc with rfl|rfl|rfl|rfl <;> simp[Au]
 simp only[Af];rcases hkc with rfl|rfl|rfl|rfl
 all_goals
  go_enter func31,ntmps31;go_wp2_with (go_at_call 64;refine(isName_any x b _ hs (hM.alloc _)).mono ?_;rintro e d ⟨rfl,a⟩;rw[World.size_alloc]at a);go_ret;exact⟨Al c.out.symm,No a⟩
theorem DdTreeVx72 {P:Prop} (h:P:=by
 cases q <;> cases r
 all_goals
  simp only[Af]
  go_enter func31,ntmps31
  go_wp2_with (first
   | (go_at_call 64;refine(isName_is x _ a b _ hs (hM.alloc _)).mono ?_;rintro e p ⟨rfl,d⟩;rw[World.size_alloc]at d;obtain⟨g,i,j,l,m,n⟩:=Hv d)
   | (go_at_call 65;refine(isType_is t _ c _).mono ?_;rintro e w' ⟨rfl,rfl⟩))
  go_ret
  exact⟨Al (by rw[f.out];rfl),No d⟩
 ):P:=h
theorem usesRight_22 (o t y:Int) (x:ByteArray) (k:Int) (b:Nat) (w:World) (hs:x.size<=1048576) (hM:Ip w b) :
  Calls prog 31 #[Af ⟨22,o,t,y,x,k⟩,.map (some b)] w fun e w'=>e = .returned (.bool (Au ⟨22,o,t,y,x,k⟩))/\Below w.heap.size w w':=by
 obtain⟨q,a⟩:∃ q,Hid (A0 x=q):=⟨_,(rfl:A0 x=_)⟩;obtain⟨r,c⟩:∃ r,Hid ((decide (1<=t) && decide (t<=10))=r):=⟨_,(rfl:(decide (1<=t) && decide (t<=10))=_)⟩;have f:Hid (Au ⟨22,o,t,y,x,k⟩=(q && r)):=by rw[Hid,<- a.out,<- c.out];simp[Au]
 exact DdTreeVx72
theorem usesRight_23 (o t y:Int) (x:ByteArray) (k:Int) (b:Nat) (w:World) (hs:x.size<=1048576) (hM:Ip w b) :
  Calls prog 31 #[Af ⟨23,o,t,y,x,k⟩,.map (some b)] w fun e w'=>e = .returned (.bool (Au ⟨23,o,t,y,x,k⟩))/\Below w.heap.size w w':=by
 obtain⟨q,a⟩:∃ q,Hid (A0 x=q):=⟨_,(rfl:A0 x=_)⟩;obtain⟨r,c⟩:∃ r,Hid ((decide (1<=t) && decide (t<=10))=r):=⟨_,(rfl:(decide (1<=t) && decide (t<=10))=_)⟩;have f:Hid (Au ⟨23,o,t,y,x,k⟩=(q && (r || (t == 0)))):=by rw[Hid,<- a.out,<- c.out];simp[Au]
 exact DdTreeVx72
theorem usesRight_cv (kc:Int) (hkc:kc=3\/kc=12\/kc=13\/kc=14\/kc=15\/kc=16\/kc=17\/kc=18\/kc=19\/kc=20\/kc=21\/kc=24) (o t y:Int) (x:ByteArray) (k:Int) (b:Nat) (w:World) :
  Calls prog 31 #[Af ⟨kc,o,t,y,x,k⟩,.map (some b)] w fun e w'=>e = .returned (.bool (Au ⟨kc,o,t,y,x,k⟩))/\Below w.heap.size w w':=by
 have a:Hid (Au ⟨kc,o,t,y,x,k⟩=true):=by rw[Hid];rcases hkc with rfl|rfl|rfl|rfl|rfl|rfl|rfl|rfl|rfl|rfl|rfl|rfl <;> simp[Au]
 simp only[Af];rcases hkc with rfl|rfl|rfl|rfl|rfl|rfl|rfl|rfl|rfl|rfl|rfl|rfl
 all_goals
  go_enter func31,ntmps31;go_wp2;go_ret;exact⟨Al a.out.symm,OP w _⟩
end Go.Proofs.YtjlaedokfbcbpaaGreatDoor
namespace Go.Proofs.YtjlaedokfbcbpaaGreatDoor
open Proofs.Tryz
open Go.RowKit Go.Maps Go.WideMaps
theorem isLiteral_is (m:Nat) (hm3:3<=m) (hm:m<=10) (y:Int) (b:Bool) (hb:Hid (decide (IntKind.u64.wrap y<=Ce (m:Int))=b)) (w:World) (hcc:w.cell? (OK 1 m)=some (.int .u64 (Ce (m:Int)))) :
  Calls prog 63 #[.int .i64 (m:Int),.int .i64 y] w fun e w'=>e = .returned (.bool b)/\w=w':=by
 have d:(m:Int) < 11:=OC
 have c:(0:Int)<=(m:Int):=OC
 have a:m < 11:=OC
 clear hm3 hm;go_enter func63,ntmps63;go_wp2;go_ret;exact⟨Al hb.out,rfl⟩
theorem usesRight_1 (o t y:Int) (x:ByteArray) (k:Int) (b:Nat) (w:World) (hG:E8 w) :
  Calls prog 31 #[Af ⟨1,o,t,y,x,k⟩,.map (some b)] w fun e w'=>e = .returned (.bool (Au ⟨1,o,t,y,x,k⟩))/\Below w.heap.size w w':=by
 simp only[Af];obtain⟨r,a⟩:∃ r,Hid ((decide (3<=t) && decide (t<=10))=r):=⟨_,(rfl:(decide (3<=t) && decide (t<=10))=_)⟩;cases r with
 | false =>
  have c:Hid (Au ⟨1,o,t,y,x,k⟩=false):=by rw[Hid,Au];simp only[if_true,a.out,Bool.false_and]
  go_enter func31,ntmps31;go_wp2_with (first|(go_at_call 62;refine(isIntType_is _ false a _).mono ?_;rintro e _ ⟨rfl,rfl⟩));go_ret;exact⟨Al c.out.symm,OP w _⟩
 | true =>
  have c:Hid (Au ⟨1,o,t,y,x,k⟩=decide (IntKind.u64.wrap y<=Ce t)):=by rw[Hid,Au];simp only[if_true,a.out,Bool.true_and]
  have j:3<=t/\t<=10:=by have:=a.out;simpa using this
  obtain⟨l,n⟩:=j;obtain⟨m,rfl⟩:∃ m:Nat,t=(m:Int):=⟨t.toNat,by omega⟩;obtain⟨f,g⟩:=hG;have d:(w.alloc (.cells #[.int .i64 1,.int .i64 o,.int .i64 (m:Int),.int .i64 y,.string x,.int .i64 k] 62)).cell? (OK 1 m)=some (.int .u64 (Ce (m:Int))):=by rw[World.cell?_alloc_past _ _ _ g];exact f m OC OC
  have p:(m:Int) < 11:=OC
  have i:(0:Int)<=(m:Int):=OC
  have h:m < 11:=OC
  clear f;go_enter func31,ntmps31;go_wp2_with (first|(go_at_call 62;refine(isIntType_is _ true a _).mono ?_;rintro e _ ⟨rfl,rfl⟩)|(go_at_call 63;refine(isLiteral_is _ OC OC _ _ rfl _ d).mono ?_;rintro e _ ⟨rfl,rfl⟩));go_ret;exact⟨Al c.out.symm,OP w _⟩
theorem usesRight_other (c:Int) (hc:c < 1\/24 < c) (o t y:Int) (x:ByteArray) (k:Int) (b:Nat) (w:World) :
  Calls prog 31 #[Af ⟨c,o,t,y,x,k⟩,.map (some b)] w fun e w'=>e = .returned (.bool (Au ⟨c,o,t,y,x,k⟩))/\Below w.heap.size w w':=by
 have a:∀ m:Int,1<=m->m<=24->c≠m:=fun m h1 h2=>OC
 have d:Hid (Au ⟨c,o,t,y,x,k⟩=true):=by rw[Hid];simp[Au,a]
 have j:=a 1 OC OC;have l:=a 2 OC OC;have n:=a 4 OC OC;have p:=a 5 OC OC;have q:=a 6 OC OC;have r:=a 7 OC OC;have s:=a 8 OC OC;have u:=a 9 OC OC;have f:=a 10 OC OC;have g:=a 11 OC OC;have h:=a 22 OC OC;have i:=a 23 OC OC;clear a hc;simp only[Af];go_enter func31,ntmps31;go_wp2;go_ret;exact⟨Al d.out.symm,OP w _⟩
theorem usesRight_any (d:Ae) (b:Nat) (w:World) (hs:d.text.size<=1048576) (hM:Ip w b) (hG:E8 w) :
  Calls prog 31 #[Af d,.map (some b)] w fun e w'=>e = .returned (.bool (Au d))/\Below w.heap.size w w':=by
 obtain⟨c,o,t,y,x,k⟩:=d;rcases Xm c with rfl|rfl|rfl|rfl|rfl|rfl|rfl|rfl|rfl|rfl|rfl|rfl|rfl|rfl|rfl|rfl|rfl|rfl|rfl|rfl|rfl|rfl|rfl|rfl|a
 ·exact usesRight_1 o t y x k b w hG
 ·exact usesRight_2 o t y x k b w
 ·exact usesRight_cv _ OD o t y x k b w
 ·exact usesRight_bv _ OD o t y x k b w hs hM
 ·exact usesRight_av _ OD o t y x k b w
 ·exact usesRight_av _ OD o t y x k b w
 ·exact usesRight_bv _ OD o t y x k b w hs hM
 ·exact usesRight_av _ OD o t y x k b w
 ·exact usesRight_9 o t y x k b w
 ·exact usesRight_bv _ OD o t y x k b w hs hM
 ·exact usesRight_bv _ OD o t y x k b w hs hM
 ·exact usesRight_cv _ OD o t y x k b w
 ·exact usesRight_cv _ OD o t y x k b w
 ·exact usesRight_cv _ OD o t y x k b w
 ·exact usesRight_cv _ OD o t y x k b w
 ·exact usesRight_cv _ OD o t y x k b w
 ·exact usesRight_cv _ OD o t y x k b w
 ·exact usesRight_cv _ OD o t y x k b w
 ·exact usesRight_cv _ OD o t y x k b w
 ·exact usesRight_cv _ OD o t y x k b w
 ·exact usesRight_cv _ OD o t y x k b w
 ·exact usesRight_22 o t y x k b w hs hM
 ·exact usesRight_23 o t y x k b w hs hM
 ·exact usesRight_cv _ OD o t y x k b w
 ·exact usesRight_other c a o t y x k b w
open Go.RowKit
theorem Qcb (d:Ae) (m:Nat) (h1:1<=d.kind) (h2:d.kind<=24) (hm:d.kids=(m:Int)):Bo d=(Au d && H4 d (Ay d m)):=by
 obtain⟨c,o,t,y,x,k⟩:=d;simp only at h1 h2 hm;subst hm;rcases N4 c h1 h2 with rfl|rfl|rfl|rfl|rfl|rfl|rfl|rfl|rfl|rfl|rfl|rfl|rfl|rfl|rfl|rfl|rfl|rfl|rfl|rfl|rfl|rfl|rfl|rfl
 all_goals simp only[Bo,H1,J1,Au,H4,Ay,Hm,F4,Ns,F3,Cs]
 all_goals generalize A0 x=nm
 all_goals rw[Bool.eq_iff_iff]
 all_goals simp
 all_goals grind
end Go.Proofs.YtjlaedokfbcbpaaGreatDoor
