import Derived.Test.YtahibkjkpmdhgaaGreatDoorKTk
import Derived.Test.YtahibkjkpmdhgaaGreatDoorKScanA
import Derived.Lib.Strings
import Derived.Deep.RegionWith
import Derived.Maps.OwnSet
import Derived.Lib.OthersKept
import Derived.Laws.RangeAny
import Derived.Deep.Light
import Derived.Maps.AppendAt
import Derived.Deep.Onto
set_option maxRecDepth 100000
set_option maxHeartbeats 2000000
namespace Go.Proofs.YtahibkjkpmdhgaaGreatDoor
open Go.RowKit
def Hy (l:List UInt8):ByteArray:=⟨l.toArray⟩
def Jz (c:UInt8):Bool:=Dm (c.toNat:Int)
def N4 (l:List UInt8):List UInt8:=l.takeWhile Jz
def Fq (s:ByteArray) (a:Nat):Nat:=(N4 (s.data.toList.drop a)).length
theorem Z0 (s:ByteArray) (a:Nat):Fq s a<=s.size - a:=by
 have:=Qdx Jz (s.data.toList.drop a);simpa[Fq,N4]using this
theorem Vc (s:ByteArray) (a k:Nat) (h:k < s.size) (ha:a<=k) (hk:k - a<=Fq s a) (ht:Dm (s[k].toNat:Int)=true):k+1 - a<=Fq s a:=by
 have:=Qk Jz (s.data.toList.drop a) (k - a) OD hk (by
  rw[List.getElem_drop]
  have e:a+(k - a)=k:=Ou
  simp only[e];exact ht)
 have e:k+1 - a=k - a+1:=Ou
 rw[e];exact this
theorem K8 (s:ByteArray) (a k:Nat) (ha:a<=k) (b:k - a<=Fq s a) (ht:∀ h:k < s.size,Dm (s[k].toNat:Int)=false):k - a=Fq s a :=
 Ql Jz (s.data.toList.drop a) (k - a) b (fun h=>by
  rw[List.getElem_drop]
  have e:a+(k - a)=k:=Ou
  have b:k < s.size:=by simp at h;omega
  simp only[e];exact ht b)
end Go.Proofs.YtahibkjkpmdhgaaGreatDoor
namespace Go.Proofs.YtahibkjkpmdhgaaGreatDoor
open Go.RowKit Go.Maps Go.WideMaps
def Ju : List (List UInt8 × Int):=[([98,111,111,108],1),([116,101,120,116],2),([117,56],3),([117,49,54],4),([117,51,50],5),([117,54,52],6),([105,56],7),([105,49,54],8),([105,51,50],9),([105,54,52],10),([102,110],0),([108,101,116],0),([105,102],0),([101,108,115,101],0),([119,104,105,108,101],0),([98,114,101,97,107],0),([99,111,110,116,105,110,117,101],0),([114,101,116,117,114,110],0),([102,97,105,108],0),([119,114,105,116,101],0),([115,97,121],0),([116,114,117,101],0),([102,97,108,115,101],0),([114,101,97,100],0),([104,97,115],0),([108,105,115,116],0),([116,111,111,108],0),([97,114,103],0),([108,101,110],0),([97,116],0),([99,117,116],0),([102,105,110,100],0),([99,104,114],0),([100,101,99],0),([110,117,109],0)]
def Iu : DataW Unit:=Ju.foldl (fun D p=>D.put (.string p.1) (.lit (.int .i64 p.2))) (.map [])
theorem Mq {H:Type} {P:Program} (w:World) {ops:Array Oper} {rest:List Oper} {o:Oper} {a:Act} {Q:Exit->Act->World->Prop}
  (hg:o.guard=none) (m x v:Operand) (t:TypeId) (hop:o.op=Op.insert t m x v)
  (k e:TypeId) (K:Keyed P k) (ht:P.underlying t=some (.map k e)) (R:Value->Option (DataW H × List MemPlace)) (b n:Nat) (D:DataW H)
  (hm:a.eval m = .map (some b)) (hown:w.ownsMap P k R b n D) (hn:n < maxLen) (key val:Value) (kl:Lit) (hx:a.eval x=key) (hv:a.eval v=val) (hkey:keyOf P k key=some kl)
  (d:DataW H) (ps:List MemPlace) (hval:R val=some (d,ps))
  (hK:∀ w',w'.ownsMap P k R b (n+1) (D.put kl d)->w.grownBy w' (some b)->wpList P ops Q rest (a.put o.dst undef) w') :
  wpList P ops Q (o::rest) a w:=by
 refine wpList_plain hg fun K' hK' => ?_
 obtain⟨w',c,f,g⟩:=hown.update K ht hn hkey hval;unfold Oper.wp;simp[execOp,hop,hm,hx,hv,c,Result.andThen];exact hK' _ _ (hK w' f g)
theorem Tryz.lawStr : Keyed Tryz.prog 9:=string_keyed Tryz.underlying9
theorem Tryz.zeroInt (w:World):(zeroValue 3).run Tryz.prog w = .ok (.int .i64 0) w:=OA
theorem Qfa {B:Nat} {w W W':World} (h:Below B w W) (hs:B < W.heap.size) (g:W.grownBy W' (some B)):Below B w W'/\B < W'.heap.size :=
 ⟨h.grown g Ou (fun j hj=>by cases hj;exact Nat.le_refl _),by have:=g.size;omega⟩
theorem takenWords_any (w:World) :
  Calls Tryz.prog 123 #[] w fun e w'=>e = .returned (.map (some w.heap.size))/\w'.ownsMap Tryz.prog 9 (plainElem Tryz.prog 3) w.heap.size 35 Iu/\OH w w':=by
 have f:=@run_makeMap Tryz.prog;have d:(w.alloc (.map #[] 0)).ownsMap Tryz.prog 9 (plainElem (H:=Unit) Tryz.prog 3) w.heap.size 0 (.map []):=World.ownsMap_made w _ _ _;have c:OH w (w.alloc (.map #[] 0))/\w.heap.size < (w.alloc (.map #[] 0)).heap.size:=⟨(Below.refl _ _).alloc (Nat.le_refl _) _,by simp⟩;go_enter Tryz.func123,Tryz.ntmps123;go_wp2_with (refine Mq _ rfl _ _ _ 182 rfl 9 3 Tryz.lawStr Tryz.underlying182 _ w.heap.size _ _ rfl d Ov _ _ _ rfl rfl (keyOf_string_mk Tryz.underlying9 Ov) _ [] (plainElem_int Tryz.underlying3 Ov) ?_;intro g b a;replace d:=b;replace c:=Qfa c.1 c.2 a;clear b a);go_ret;exact⟨rfl,d,c.1⟩
end Go.Proofs.YtahibkjkpmdhgaaGreatDoor
namespace Go.Proofs.YtahibkjkpmdhgaaGreatDoor
open Go.RowKit Go.Maps Go.WideMaps
theorem Vb (D:DataW Unit) (h:IsMap D) (k:Lit) (d:DataW Unit):IsMap (D.put k d):=by
 obtain⟨a,rfl⟩:=h;exact⟨_,rfl⟩
theorem Pf (k:List UInt8):∀ (l:List (List UInt8 × Int)) (D:DataW Unit) (r:Bool),IsMap D->Maps.has D (.string k)=r ->
  Maps.has (l.foldl (fun D p=>D.put (.string p.1) (.lit (.int .i64 p.2))) D) (.string k)=l.foldl (fun r p=>if p.1=k then true else r) r
 | [],_,_,_,h=>h
 | p::l,D,r,hD,h=>by
  rw[List.foldl_cons,List.foldl_cons]
  refine Pf k l _ _ (Vb D hD _ _) ?_
  by_cases hp:p.1=k
  ·rw[if_pos hp,hp,has_put_same hD (by trivial)]
  ·rw[if_neg hp,has_put_other (by intro e;exact hp (by injection e with e1;exact e1.symm)),h]
theorem Ve (k:List UInt8):Ev (Hy k)=if k=[98,111,111,108] then 1 else if k=[116,101,120,116] then 2 else if k=[117,56] then 3 else if k=[117,49,54] then 4 else if k=[117,51,50] then 5 else if k=[117,54,52] then 6 else if k=[105,56] then 7 else if k=[105,49,54] then 8 else if k=[105,51,50] then 9 else if k=[105,54,52] then 10 else 0:=by
 have b:(Hy k).toList=k:=by rw[ByteArray.toList_eq];rfl
 have a:∀ m:List UInt8,((⟨m.toArray⟩:ByteArray).toList == (Hy k).toList)=true ↔ k=m:=fun m=>by rw[b,ByteArray.toList_eq];show (m == k)=true ↔ k=m;rw[beq_iff_eq];exact eq_comm
 unfold Ev;simp only[Gq];rw[show Cx 1=⟨[98,111,111,108].toArray⟩ from rfl];rw[show Cx (1+1)=⟨[116,101,120,116].toArray⟩ from rfl];rw[show Cx (1+1+1)=⟨[117,56].toArray⟩ from rfl];rw[show Cx (1+1+1+1)=⟨[117,49,54].toArray⟩ from rfl];rw[show Cx (1+1+1+1+1)=⟨[117,51,50].toArray⟩ from rfl];rw[show Cx (1+1+1+1+1+1)=⟨[117,54,52].toArray⟩ from rfl];rw[show Cx (1+1+1+1+1+1+1)=⟨[105,56].toArray⟩ from rfl];rw[show Cx (1+1+1+1+1+1+1+1)=⟨[105,49,54].toArray⟩ from rfl];rw[show Cx (1+1+1+1+1+1+1+1+1)=⟨[105,51,50].toArray⟩ from rfl];rw[show Cx (1+1+1+1+1+1+1+1+1+1)=⟨[105,54,52].toArray⟩ from rfl];simp only[a];rfl
theorem Tf (k:List UInt8):Ev (Hy k)≠0 ↔ k ∈ Jc:=by
 rw[Ve];simp only[Jc,List.mem_cons,List.not_mem_nil,or_false];by_cases h0:k=[98,111,111,108]
 ·simp[h0]
 by_cases h1:k=[116,101,120,116]
 ·simp[h1]
 by_cases h2:k=[117,56]
 ·simp[h2]
 by_cases h3:k=[117,49,54]
 ·simp[h3]
 by_cases h4:k=[117,51,50]
 ·simp[h4]
 by_cases h5:k=[117,54,52]
 ·simp[h5]
 by_cases h6:k=[105,56]
 ·simp[h6]
 by_cases h7:k=[105,49,54]
 ·simp[h7]
 by_cases h8:k=[105,51,50]
 ·simp[h8]
 by_cases h9:k=[105,54,52]
 ·simp[h9]
 simp[h0,h1,h2,h3,h4,h5,h6,h7,h8,h9]
theorem Q1 (k:List UInt8):Ek (Hy k) 12 1=true ↔ k ∈ J7:=by
 have b:(Hy k).toList=k:=by rw[ByteArray.toList_eq];rfl
 have a:∀ m:List UInt8,((⟨m.toArray⟩:ByteArray).toList == (Hy k).toList)=decide (k=m):=fun m=>by
  rw[b,ByteArray.toList_eq];show (m == k)=decide (k=m)
  rw[Bool.eq_iff_iff];simp only[beq_iff_eq,decide_eq_true_eq];exact eq_comm
 simp only[Ek];rw[show Ca 1=⟨[114,101,97,100].toArray⟩ from rfl];rw[show Ca (1+1)=⟨[104,97,115].toArray⟩ from rfl];rw[show Ca (1+1+1)=⟨[108,105,115,116].toArray⟩ from rfl];rw[show Ca (1+1+1+1)=⟨[116,111,111,108].toArray⟩ from rfl];rw[show Ca (1+1+1+1+1)=⟨[97,114,103].toArray⟩ from rfl];rw[show Ca (1+1+1+1+1+1)=⟨[108,101,110].toArray⟩ from rfl];rw[show Ca (1+1+1+1+1+1+1)=⟨[97,116].toArray⟩ from rfl];rw[show Ca (1+1+1+1+1+1+1+1)=⟨[99,117,116].toArray⟩ from rfl];rw[show Ca (1+1+1+1+1+1+1+1+1)=⟨[102,105,110,100].toArray⟩ from rfl];rw[show Ca (1+1+1+1+1+1+1+1+1+1)=⟨[99,104,114].toArray⟩ from rfl];rw[show Ca (1+1+1+1+1+1+1+1+1+1+1)=⟨[100,101,99].toArray⟩ from rfl];rw[show Ca (1+1+1+1+1+1+1+1+1+1+1+1)=⟨[110,117,109].toArray⟩ from rfl];simp only[a,J7,Bool.or_eq_true,decide_eq_true_eq,List.mem_cons,List.not_mem_nil,Bool.false_eq_true]
theorem Vd (k:List UInt8):Dx (Hy k)=true ↔ k ∈ Ju.map Prod.fst:=by
 have b:(Hy k).toList=k:=by rw[ByteArray.toList_eq];rfl
 have d:Ju.map Prod.fst=Jc++(Bs++J7):=rfl;have a:Bs.any (fun p=>p == (Hy k).toList)=true ↔ k ∈ Bs:=by
  rw[b,List.any_eq_true];constructor
  ·rintro⟨x,f,h⟩;rw[<- beq_iff_eq.1 h];exact f
  ·intro h;exact⟨k,h,by simp⟩
 have c:(Ev (Hy k) != 0)=true ↔ k ∈ Jc:=by rw[bne_iff_ne];exact Tf k
 rw[d,List.mem_append,List.mem_append,Dx,Bool.or_eq_true,Bool.or_eq_true,c,a,Q1];constructor
 ·rintro((h|h)|h)
  ·exact .inl h
  ·exact .inr (.inr h)
  ·exact .inr (.inl h)
 ·rintro(h|h|h)
  ·exact .inl (.inl h)
  ·exact .inr h
  ·exact .inl (.inr h)
theorem Pe (k:List UInt8):∀ (l:List (List UInt8 × Int)) (r:Bool),l.foldl (fun r p=>if p.1=k then true else r) r=true ↔ r=true\/k ∈ l.map Prod.fst
 | [],r=>by simp
 | p::l,r=>by
  rw[List.foldl_cons,Pe k l]
  by_cases hp:p.1=k
  ·simp[hp]
  ·rw[if_neg hp];simp only[List.map_cons,List.mem_cons]
   constructor
   ·rintro(h|h)
    ·exact .inl h
    ·exact .inr (.inr h)
   ·rintro(h|h|h)
    ·exact .inl h
    ·exact absurd h.symm hp
    ·exact .inr h
theorem N5 (k:List UInt8):Maps.has Iu (.string k)=Dx (Hy k):=by
 rw[Iu,Pf k Ju (.map []) false ⟨[],rfl⟩ rfl,Bool.eq_iff_iff,Pe,Vd];simp
open Go.RowKit
theorem Zy (r:Int) (h:128<=r):Df r=false/\F7 r=false/\(r != 95)=true:=by
 refine⟨?_, ?_, ?_⟩
 ·simp[Df];omega
 ·simp[F7];omega
 ·simp;omega
theorem Zz (r:Int) (h:Dm r=false):Df r=false/\F7 r=false/\(r != 95)=true:=by
 simp[Dm]at h;simp[h]
theorem wordSize_any (s:ByteArray) (w:World) (hs:s.size<=1048576) :
  Calls Tryz.prog 170 #[.string s] w fun e w'=>e = .returned (.int .i64 (Fq s 0:Int))/\OH w w':=by
 have p:=Z0 s 0;go_enter Tryz.func170,Tryz.ntmps170;go_wp2;go_loopw [3,4] (fun _ _ wr => ∃ a:Nat,a<=s.size/\a - 0<=Fq s 0/\wr.heap[w.heap.size]? = some (.stringIter s a)/\OH w wr) (fun _ _ wr=>s.size - wr.iterPos w.heap.size);case atStart=>exact⟨0,by omega,by omega,World.iter_heap w s 0,(Below.refl _ _).alloc (Nat.le_refl _) _⟩
 case round =>
  obtain⟨a,A,g,d,i⟩:=hrel;have o:=iterPos_of d;by_cases hp:a < s.size
  ·by_cases ha:s[a].toNat < 128
   ·have j:∀ ty,(Instr.next (.pointer (some (OK w 0))) true ty).run Tryz.prog wr=_:=fun ty=>Lib.run_next_ascii_at wr w.heap.size s a ty d hp ha
    have c:=Lib.iterAt_heap wr w.heap.size s a (a+1) d;have b:=Lib.below_iterAt i (k:=w.heap.size) (Nat.le_refl _) s (a+1);cases ht:Dm (s[a].toNat:Int) with
    | true =>
     have z:=Vc s 0 a hp Ou g ht;obtain⟨n,f⟩:∃ n,n=wr.iterAt w.heap.size s (a+1):=⟨_,rfl⟩;rw[<- f]at j c b;clear f d i;have m:=ht;simp only[Dm]at m;cases q:Df (s[a].toNat:Int) <;> cases t:F7 (s[a].toNat:Int) <;> cases x:((s[a].toNat:Int) != 95)
     all_goals try (exfalso;rw[q,t]at m;simp at m x;omega)
     all_goals
      clear m;go_wp2_with (first
       | (go_at_call 169;refine(isLetter_any _ _).mono ?_;rintro e w' ⟨rfl,rfl⟩;rw[q])
       | (go_at_call 181;refine(isDigit_any _ _).mono ?_;rintro e w' ⟨rfl,rfl⟩;rw[t]))
      go_roundw;case rel=>exact⟨a+1,by omega,z,c,b⟩
      case measure=>rw[iterPos_of c,o];omega
    | false =>
     have l:=K8 s 0 a Ou g (fun _=>ht);obtain⟨q,t,x⟩:=Zz _ ht;have u:Hid ((a:Int)=(Fq s 0:Int)):=(by rw[Hid];omega);clear l g p;obtain⟨n,f⟩:∃ n,n=wr.iterAt w.heap.size s (a+1):=⟨_,rfl⟩;rw[<- f]at j c b;clear f d i;go_wp2_with (first
      | (go_at_call 169;refine(isLetter_any _ _).mono ?_;rintro e w' ⟨rfl,rfl⟩;rw[q])
      | (go_at_call 181;refine(isDigit_any _ _).mono ?_;rintro e w' ⟨rfl,rfl⟩;rw[t]))
     go_ret;exact⟨Ja u.out,b⟩
   ·have j:∀ ty,(Instr.next (.pointer (some (OK w 0))) true ty).run Tryz.prog wr=_:=fun ty=>Lib.run_next_any_at wr w.heap.size s a ty d hp
    have y:=decode_high s a hp Ou;have c:=Lib.iterAt_heap wr w.heap.size s a (a+(Utf8.decode s a).2) d;have b:=Lib.below_iterAt i (k:=w.heap.size) (Nat.le_refl _) s (a+(Utf8.decode s a).2);have v:Dm (s[a].toNat:Int)=false:=(by simp[Dm,Df,F7];omega);have l:=K8 s 0 a Ou g (fun _=>v);obtain⟨q,t,x⟩:=Zy ((Utf8.decode s a).1:Int) Ou;have u:Hid ((a:Int)=(Fq s 0:Int)):=(by rw[Hid];omega);clear l g p v y;obtain⟨n,f⟩:∃ n,n=wr.iterAt w.heap.size s (a+(Utf8.decode s a).2):=⟨_,rfl⟩;rw[<- f]at j c b;clear f d i;generalize ((Utf8.decode s a).1:Int)=r at *;go_wp2_with (first
     | (go_at_call 169;refine(isLetter_any _ _).mono ?_;rintro e w' ⟨rfl,rfl⟩;rw[q])
     | (go_at_call 181;refine(isDigit_any _ _).mono ?_;rintro e w' ⟨rfl,rfl⟩;rw[t]))
    go_ret;exact⟨Ja u.out,b⟩
  ·have j:∀ ty,(Instr.next (.pointer (some (OK w 0))) true ty).run Tryz.prog wr=_:=fun ty=>Lib.run_next_end_at wr w.heap.size s a ty d hp
   have l:=K8 s 0 a Ou g (fun h=>absurd h hp);have u:Hid ((s.size:Int)=(Fq s 0:Int)):=(by rw[Hid];omega);clear l g p;go_wp2;go_ret;exact⟨Ja u.out,i⟩
end Go.Proofs.YtahibkjkpmdhgaaGreatDoor
namespace Go.Proofs.YtahibkjkpmdhgaaGreatDoor
open Go.RowKit Go.Maps Go.WideMaps
def G8 (w:World) (b:Nat):Prop:=w.ownsMap Tryz.prog 9 (plainElem (H:=Unit) Tryz.prog 3) b 35 Iu
theorem isType_any (b:Int) (w:World) :
  Calls Tryz.prog 151 #[.int .i64 b] w fun e w'=>e = .returned (.bool (decide (1<=b) && decide (b<=10)))/\w=w':=by
 go_enter Tryz.func151,Tryz.ntmps151;go_wp2;all_goals go_ret
 all_goals exact⟨by simp[decide_eq_true_eq, *] <;> omega,rfl⟩
theorem Sx {α:Type} (p:α->Bool):∀ l:List α,((l.takeWhile p).length=l.length) ↔ l.all p=true
 | []=>by simp
 | a::r=>by
  cases h:p a with
  | true=>simp[h];simpa using Sx p r
  | false=>simp[h]
theorem Xr (s:ByteArray):((Fq s 0:Int) == (s.size:Int))=s.data.toList.all (fun c=>Dm (c.toNat:Int)):=by
 rw[Bool.eq_iff_iff];have h:=Sx Jz s.data.toList;simp only[Fq,List.drop_zero,N4,beq_iff_eq];have b:s.data.toList.length=s.size:=by simp
 rw[b]at h;constructor
 ·intro a;exact h.1 Ou
 ·intro a;have:=h.2 a;omega
theorem isName_any (s:ByteArray) (b:Nat) (w:World) (hs:s.size<=1048576) (hM:G8 w b) :
    Calls Tryz.prog 148 #[.string s,.map (some b)] w fun e w'=>e = .returned (.bool (Br s))/\OH w w':=by
  have o:=hM.lt;by_cases h1:0 < s.size
  · have k:(s.toList == [])=false:=by
      rw[ByteArray.toList_eq];cases hl:s.data.toList with
      | nil => have : s.data.toList.length = s.size:=by simp
               rw[hl]at this;simp at this;omega
      | cons a r=>rfl
    have p:s.toList.isEmpty=false:=by
      rw[ByteArray.toList_eq];cases hl:s.data.toList with
      | nil => have : s.data.toList.length = s.size:=by simp
               rw[hl]at this;simp at this;omega
      | cons a r=>rfl
    have f:IntKind.i32.wrap (s[0].toNat:Int)=(s[0].toNat:Int):=(by have:=s[0].toNat_lt;rw[IntKind.wrap_i32];omega);by_cases h2:s.size<=30
    · cases hl:Df (s[0].toNat:Int) with
      | false =>
        have d:Hid (Br s=false):=K7 s h1 hl;go_enter Tryz.func148,Tryz.ntmps148;go_wp2_with (go_at_call 169;refine(isLetter_any _ _).mono ?_;rintro e w' ⟨rfl,rfl⟩;first|rw[hl]|rw[f,hl]);go_ret;exact⟨C2 d.out.symm,Below.refl _ _⟩
      | true =>
        have h:s.size<=maxLen:=OF;have g:Hy s.data.toList=s:=rfl;cases ht:Dx s with
        | true =>
          have d:Hid (Br s=false):=Li s ht;have i:Hid (Maps.has Iu (.string s.data.toList)=true):=(by rw[Hid,N5,g];exact ht);go_enter Tryz.func148,Tryz.ntmps148;go_wp2_with (first
            | (go_at_call 169;refine(isLetter_any _ _).mono ?_;rintro e w' ⟨rfl,rfl⟩;first|rw[hl]|rw[f,hl])
            | (at_lookup;refine wpList_lookup_own_ok_int _ rfl _ _ 182 rfl 9 3 .i64 Tryz.lawStr Tryz.underlying182 Tryz.underlying3 (Tryz.zeroInt _) b 35 _ rfl hM _ _ rfl (keyOf_string_mk Tryz.underlying9 h) ?_;intro c j m;rw[i.out]))
          go_ret;exact⟨C2 d.out.symm,Below.refl _ _⟩
        | false =>
          have d:Hid (Br s=((Fq s 0:Int) == (s.size:Int))):=(by rw[Hid,Xr];exact L3 s h1 h2 hl ht);have i:Hid (Maps.has Iu (.string s.data.toList)=false):=(by rw[Hid,N5,g];exact ht);go_enter Tryz.func148,Tryz.ntmps148;go_wp2_with (first
            | (go_at_call 169;refine(isLetter_any _ _).mono ?_;rintro e w' ⟨rfl,rfl⟩;first|rw[hl]|rw[f,hl])
            | (at_lookup;refine wpList_lookup_own_ok_int _ rfl _ _ 182 rfl 9 3 .i64 Tryz.lawStr Tryz.underlying182 Tryz.underlying3 (Tryz.zeroInt _) b 35 _ rfl hM _ _ rfl (keyOf_string_mk Tryz.underlying9 h) ?_;intro c j m;rw[i.out])
            | (go_at_call 170;refine(wordSize_any _ _ hs).mono ?_;rintro e t ⟨rfl,n⟩))
          go_ret;exact⟨C2 d.out.symm,n⟩
    · have d:Hid (Br s=false):=Hz s (.inr Ou);go_enter Tryz.func148,Tryz.ntmps148;go_wp2_with fail;go_ret;exact⟨C2 d.out.symm,Below.refl _ _⟩
  · have d:Hid (Br s=false):=Hz s (.inl Ou);have l:s.data.toList.length=s.size:=OB;have k:s.data.toList=[]:=List.eq_nil_of_length_eq_zero Ou;have q:s.toList.isEmpty=true:=(by rw[ByteArray.toList_eq,k];rfl);clear k l;go_enter Tryz.func148,Tryz.ntmps148;go_wp2_with fail;go_ret;exact⟨C2 d.out.symm,Below.refl _ _⟩
theorem isName_is (s:ByteArray) (c:Bool) (h:Hid (Br s=c)) (b:Nat) (w:World) (hs:s.size<=1048576) (hM:G8 w b) :
  Calls Tryz.prog 148 #[.string s,.map (some b)] w fun e w'=>e = .returned (.bool c)/\OH w w':=by
 rw[<- h.out];exact isName_any s b w hs hM
end Go.Proofs.YtahibkjkpmdhgaaGreatDoor
