import Derived.Test.YtlcckaffhnjneaaGreatDoorKScanG
import Derived.Deep.RegionWith
import Derived.Maps.OwnSet
import Derived.Lib.OthersKept
import Derived.Laws.RangeAny
set_option maxRecDepth 100000
set_option maxHeartbeats 2000000
namespace Go.Proofs.YtlcckaffhnjneaaGreatDoor
open Go.RowKit
theorem eqFault_same (c a:Int) (w:World) :
  Calls Tryz.prog 7 #[.agg #[.int .i64 c,.int .i64 a],.agg #[.int .i64 c,.int .i64 a]] w fun e w'=>e = .returned (.bool true)∧Below w.heap.size w w':=by
 go_enter Tryz.func7,Tryz.ntmps7
 go_wp2
 all_goals go_ret
 all_goals exact ⟨rfl,((Below.refl _ w).alloc (Nat.le_refl _) _).alloc (by simp) _⟩
def Mill.digs : Nat→Int→ByteArray→ByteArray
 | 0,_,out=>out
 | f+1,k,out=>if 0 < k then Mill.digs f (k / 10) (⟨#[UInt8.ofNat (48+k % 10).toNat]⟩++out) else out
def Mill.mark (k:Int):ByteArray:=⟨#[109]⟩++Mill.digs (k.toNat+1) k ⟨#[]⟩
theorem Mill.digs_pos (f:Nat) (k:Int) (out:ByteArray) (h:0 < k):Mill.digs (f+1) k out=Mill.digs f (k / 10) (⟨#[UInt8.ofNat (48+k % 10).toNat]⟩++out):=by rw [Mill.digs,if_pos h]
theorem Mill.digs_zero (f:Nat) (k:Int) (out:ByteArray) (h:¬ 0 < k):Mill.digs f k out=out:=by
 cases f with
 | zero=>rfl
 | succ f=>rw [Mill.digs,if_neg h]
theorem Mill.size_one (x:UInt8):(⟨#[x]⟩:ByteArray).size=1:=rfl
theorem Mill.size_app (a b:ByteArray):(a++b).size=a.size+b.size:=ByteArray.size_append
theorem Mill.conv_one (w:World) (x:Int) (h0:0≤x) (h1:x≤255) :
  Sem.run Tryz.prog (convert 117 9 (.slice (some ⟨w.heap.size,0,none⟩) 1 1)) (w.alloc (.cells #[.int .u8 x] 5)) = .ok (.string ⟨#[UInt8.ofNat x.toNat]⟩) (w.alloc (.cells #[.int .u8 x] 5)):=by
 refine run_convert_bytes_back (P:=Tryz.prog) (w.alloc (.cells #[.int .u8 x] 5)) 117 9 5 ⟨w.heap.size,0,none⟩ 1 [UInt8.ofNat x.toNat] Tryz.underlying117 Tryz.underlying5 Tryz.underlying9 ?_
 intro j hj
 have hj0:j=0:=by simp at hj;omega
 subst hj0
 refine Mill.cell_new w #[.int .u8 x] 5 0 _ ?_
 simp only [List.getElem_cons_zero,Mill.ofNat_toNat x h0 h1];rfl
theorem markText_any (k:Int) (w:World) (h1:1≤k) (h2:k≤1000000) :
  Calls Tryz.prog 35 #[.int .i64 k] w fun e w'=>e = .returned (.string (Mill.mark k))∧Below w.heap.size w w':=by
 go_enter Tryz.func35,Tryz.ntmps35
 go_wp2
 go_loopw [0,3] (fun t v wr => ∃ (j:Int) (f:Nat) (out:ByteArray),0≤j∧j≤k∧j < f∧(out.size:Int)≤k - j∧t = .int .i64 j∧v = .string out∧Mill.digs f j out=Mill.digs (k.toNat+1) k ⟨#[]⟩∧Below w.heap.size w wr) (fun t _ _=>(intOf t).toNat)
 case atStart=>exact ⟨k,k.toNat+1,⟨#[]⟩,by omega,by omega,by omega,by simp [ByteArray.size],rfl,rfl,rfl,Below.refl _ _⟩
 case round =>
  obtain ⟨j,f,out,hj0,hj1,hjf,hos,rfl,rfl,hd,hb⟩:=hrel
  by_cases hp:0 < j
  ·obtain ⟨f,rfl⟩:∃ f',f=f'+1:=⟨f - 1,by omega⟩
   have HD:Hid (Mill.digs f (j / 10) (⟨#[UInt8.ofNat (48+j % 10).toNat]⟩++out)=Mill.digs (k.toNat+1) k ⟨#[]⟩):=by rw [Mill.digs_pos _ _ _ hp] at hd;exact hd
   clear hd
   have hcv:=Mill.conv_one wr (48+j % 10) (by omega) (by omega)
   go_wp2
   go_roundw
   case rel=>exact ⟨j / 10,f,_,by omega,by omega,by omega,by rw [Mill.size_app,Mill.size_one];omega,rfl,rfl,HD.out,hb.alloc hb.size _⟩
   case measure=>simp [intOf];omega
  ·have HD:Hid (out=Mill.digs (k.toNat+1) k ⟨#[]⟩):=by rw [Mill.digs_zero _ _ _ hp] at hd;exact hd
   clear hd
   have HM:Hid (Value.string (⟨#[109]⟩++out) = .string (Mill.mark k)):=by rw [Hid,Mill.mark,← HD.out]
   go_wp2
   go_ret
   exact ⟨Mill.ret_val HM.out,hb⟩
theorem Mill.own_form {w:World} {B e size n:Nat} {v:Value} {xs:List Value} (h:w.ownsRow B e size v n xs) (hn:0 < n):∃ g cap,v = .slice (some ⟨g,0,none⟩) n cap∧B≤g∧g < w.heap.size:=by
 rcases h.2 with ⟨_,h0⟩ | ⟨g,cap,cur,rfl,hg,hgg,_⟩
 ·omega
 ·exact ⟨g,cap,rfl,hg,(Array.getElem?_eq_some_iff.1 hgg).1⟩
theorem Mill.own_len {w:World} {B e size n:Nat} {v:Value} {xs:List Value} (h:w.ownsRow B e size v n xs):∃ a cap,v = .slice a n cap:=by
 rcases h.2 with ⟨rfl,h0⟩ | ⟨g,cap,cur,rfl,_⟩
 ·exact ⟨none,0,by rw [h0]⟩
 ·exact ⟨_,_,rfl⟩
theorem Mill.tokCs_at (ts:List (Mill.Piece × Nat)) (i:Nat) (h:i < ts.length) (j:Nat) (hj:j < 5):(Mill.tokCs ts)[i * 5+j]? = (Mill.tokC ts[i])[j]?:=by
 induction ts generalizing i with
 | nil=>simp at h
 | cons t r ih =>
  cases i with
  | zero =>
   simp only [Mill.tokCs,List.flatMap_cons,Nat.zero_mul,Nat.zero_add]
   rw [List.getElem?_append_left (by simp [Mill.tokC];omega)];rfl
  | succ i =>
   simp only [Mill.tokCs,List.flatMap_cons]
   rw [List.getElem?_append_right (by simp [Mill.tokC];omega)]
   have e:(i+1) * 5+j - (Mill.tokC t).length=i * 5+j:=by simp [Mill.tokC];omega
   rw [e]
   exact ih i (by simpa using h)
def Mill.mk5 (c:Nat) (k:Int) (xs:List Value):List Value:=((((xs.set c (.int .i64 k)).set (c+1) (.string (Mill.mark (k+1)))).set (c+2) (.int .i64 (k+1+1))).set (c+3) (.int .i64 (k+1+1+1))).set (c+4) (.int .i64 (k+1+1+1+1))
def Mill.markTo (k:Int):Nat→List Value→List Value
 | 0,xs=>xs
 | i+1,xs=>Mill.mk5 (i * 5) (k+5 * (i:Int)) (Mill.markTo k i xs)
theorem Mill.markTo_length (k:Int) (i:Nat) (xs:List Value):(Mill.markTo k i xs).length=xs.length:=by
 induction i with
 | zero=>rfl
 | succ i ih=>simp [Mill.markTo,Mill.mk5,ih]
def Mill.five (k:Int):List Value:=[.int .i64 k,.string (Mill.mark (k+1)),.int .i64 (k+1+1),.int .i64 (k+1+1+1),.int .i64 (k+1+1+1+1)]
theorem Mill.mk5_other (c:Nat) (k:Int) (xs:List Value) (j:Nat) (h:j < c∨c+4 < j):(Mill.mk5 c k xs)[j]? = xs[j]?:=by
 unfold Mill.mk5
 rw [List.getElem?_set_ne (by omega),List.getElem?_set_ne (by omega),List.getElem?_set_ne (by omega),List.getElem?_set_ne (by omega),List.getElem?_set_ne (by omega)]
theorem Mill.mk5_at (c:Nat) (k:Int) (xs:List Value) (hc:c+5≤xs.length) (j:Nat) (hj:j < 5):(Mill.mk5 c k xs)[c+j]? = (Mill.five k)[j]?:=by
 unfold Mill.mk5
 match j,hj with
 | 0,_=>rw [List.getElem?_set_ne (by omega),List.getElem?_set_ne (by omega),List.getElem?_set_ne (by omega),List.getElem?_set_ne (by omega)];rw [Nat.add_zero,List.getElem?_set_self (by omega)];rfl
 | 1,_=>rw [List.getElem?_set_ne (by omega),List.getElem?_set_ne (by omega),List.getElem?_set_ne (by omega)];rw [List.getElem?_set_self (by simp;omega)];rfl
 | 2,_=>rw [List.getElem?_set_ne (by omega),List.getElem?_set_ne (by omega)];rw [List.getElem?_set_self (by simp;omega)];rfl
 | 3,_=>rw [List.getElem?_set_ne (by omega)];rw [List.getElem?_set_self (by simp;omega)];rfl
 | 4,_=>rw [List.getElem?_set_self (by simp;omega)];rfl
theorem Mill.markTo_at (k:Int) (n:Nat) (xs:List Value) (hn:n * 5≤xs.length) (i:Nat) (hi:i < n) (j:Nat) (hj:j < 5):(Mill.markTo k n xs)[i * 5+j]? = (Mill.five (k+5 * (i:Int)))[j]?:=by
 induction n with
 | zero=>omega
 | succ n ih =>
  rw [Mill.markTo]
  by_cases h:i=n
  ·subst h
   exact Mill.mk5_at _ _ _ (by rw [Mill.markTo_length];omega) j hj
  ·rw [Mill.mk5_other _ _ _ _ (by omega)]
   exact ih (by omega) (by omega)
theorem Mill.own_some {w:World} {B e size n g cap:Nat} {xs:List Value} (h:w.ownsRow B e size (.slice (some ⟨g,0,none⟩) n cap) n xs) (j:Nat) (hj:j < n * size):∃ y,w.cell? ⟨g,j,none⟩=some y:=by
 rw [h.cellAt j hj];exact ⟨_,List.getElem?_eq_getElem (by rw [h.1];exact hj)⟩
end Go.Proofs.YtlcckaffhnjneaaGreatDoor
namespace Go.Proofs.YtlcckaffhnjneaaGreatDoor
open Go.RowKit Go.Maps Go.WideMaps
def Mill.wordList : List (List UInt8 × Int):=[([98,111,111,108],1),([116,101,120,116],2),([117,56],3),([117,49,54],4),([117,51,50],5),([117,54,52],6),([105,56],7),([105,49,54],8),([105,51,50],9),([105,54,52],10),([102,110],0),([108,101,116],0),([105,102],0),([101,108,115,101],0),([119,104,105,108,101],0),([98,114,101,97,107],0),([99,111,110,116,105,110,117,101],0),([114,101,116,117,114,110],0),([102,97,105,108],0),([119,114,105,116,101],0),([115,97,121],0),([116,114,117,101],0),([102,97,108,115,101],0),([114,101,97,100],0),([104,97,115],0),([108,105,115,116],0),([116,111,111,108],0),([97,114,103],0),([108,101,110],0),([97,116],0),([99,117,116],0),([102,105,110,100],0),([99,104,114],0),([100,101,99],0),([110,117,109],0)]
def Mill.wordsD : DataW Unit:=Mill.wordList.foldl (fun D p=>D.put (.string p.1) (.lit (.int .i64 p.2))) (.map [])
theorem Mill.wpList_insert_own {H:Type} {P:Program} (w:World) {ops:Array Oper} {rest:List Oper} {o:Oper} {a:Act} {Q:Exit→Act→World→Prop}
  (hg:o.guard=none) (m x v:Operand) (t:TypeId) (hop:o.op=Op.insert t m x v)
  (k e:TypeId) (K:Keyed P k) (ht:P.underlying t=some (.map k e)) (R:Value→Option (DataW H × List MemPlace)) (b n:Nat) (D:DataW H)
  (hm:a.eval m = .map (some b)) (hown:w.ownsMap P k R b n D) (hn:n < maxLen) (key val:Value) (kl:Lit) (hx:a.eval x=key) (hv:a.eval v=val) (hkey:keyOf P k key=some kl)
  (d:DataW H) (ps:List MemPlace) (hval:R val=some (d,ps))
  (hK:∀ w',w'.ownsMap P k R b (n+1) (D.put kl d)→w.grownBy w' (some b)→wpList P ops Q rest (a.put o.dst undef) w') :
  wpList P ops Q (o::rest) a w:=by
 refine wpList_plain hg fun K' hK' => ?_
 obtain ⟨w',hrun,r1,r2⟩:=hown.update K ht hn hkey hval
 unfold Oper.wp
 simp [execOp,hop,hm,hx,hv,hrun,Result.andThen]
 exact hK' _ _ (hK w' r1 r2)
theorem Tryz.lawStr : Keyed Tryz.prog 9:=string_keyed Tryz.underlying9
theorem Tryz.zeroInt (w:World):(zeroValue 3).run Tryz.prog w = .ok (.int .i64 0) w:=by kernel_rfl
theorem Mill.grow {B:Nat} {w W W':World} (h:Below B w W) (hs:B < W.heap.size) (g:W.grownBy W' (some B)):Below B w W'∧B < W'.heap.size :=
 ⟨h.grown g (by omega) (fun j hj=>by cases hj;exact Nat.le_refl _),by have:=g.size;omega⟩
theorem takenWords_any (w:World) :
  Calls Tryz.prog 57 #[] w fun e w'=>e = .returned (.map (some w.heap.size))∧w'.ownsMap Tryz.prog 9 (plainElem Tryz.prog 3) w.heap.size 35 Mill.wordsD∧Below w.heap.size w w':=by
 have hmm:=@run_makeMap Tryz.prog
 have hM:(w.alloc (.map #[] 0)).ownsMap Tryz.prog 9 (plainElem (H:=Unit) Tryz.prog 3) w.heap.size 0 (.map []):=World.ownsMap_made w _ _ _
 have hB:Below w.heap.size w (w.alloc (.map #[] 0))∧w.heap.size < (w.alloc (.map #[] 0)).heap.size:=⟨(Below.refl _ _).alloc (Nat.le_refl _) _,by simp⟩
 go_enter Tryz.func57,Tryz.ntmps57
 go_wp2_with (refine Mill.wpList_insert_own _ rfl _ _ _ 102 rfl 9 3 Tryz.lawStr Tryz.underlying102 _ w.heap.size _ _ rfl hM (by decide) _ _ _ rfl rfl (keyOf_string_mk Tryz.underlying9 (by decide)) _ [] (plainElem_int Tryz.underlying3 (by decide)) ?_;intro w1 hM1 hG1;replace hM:=hM1;replace hB:=Mill.grow hB.1 hB.2 hG1;clear hM1 hG1)
 go_ret
 exact ⟨rfl,hM,hB.1⟩
end Go.Proofs.YtlcckaffhnjneaaGreatDoor
namespace Go.Proofs.YtlcckaffhnjneaaGreatDoor
open Go.RowKit Go.Maps Go.WideMaps
theorem Mill.isMap_put (D:DataW Unit) (h:IsMap D) (k:Lit) (d:DataW Unit):IsMap (D.put k d):=by
 obtain ⟨es,rfl⟩:=h;exact ⟨_,rfl⟩
theorem Mill.fold_at (k:List UInt8):∀ (l:List (List UInt8 × Int)) (D:DataW Unit) (r:Int),IsMap D→D.atKey (.string k) (.lit (.int .i64 0)) = .lit (.int .i64 r) →
  (l.foldl (fun D p=>D.put (.string p.1) (.lit (.int .i64 p.2))) D).atKey (.string k) (.lit (.int .i64 0)) = .lit (.int .i64 (l.foldl (fun r p=>if p.1=k then p.2 else r) r))
 | [],_,_,_,h=>h
 | p::l,D,r,hD,h=>by
  rw [List.foldl_cons,List.foldl_cons]
  refine Mill.fold_at k l _ _ (Mill.isMap_put D hD _ _) ?_
  by_cases hp:p.1=k
  ·rw [if_pos hp,hp,atKey_put_same hD (by trivial)]
  ·rw [if_neg hp,atKey_put_other (by intro e;exact hp (by injection e with e1;exact e1.symm)),h]
theorem Mill.fold_has (k:List UInt8):∀ (l:List (List UInt8 × Int)) (D:DataW Unit) (r:Bool),IsMap D→Maps.has D (.string k)=r →
  Maps.has (l.foldl (fun D p=>D.put (.string p.1) (.lit (.int .i64 p.2))) D) (.string k)=l.foldl (fun r p=>if p.1=k then true else r) r
 | [],_,_,_,h=>h
 | p::l,D,r,hD,h=>by
  rw [List.foldl_cons,List.foldl_cons]
  refine Mill.fold_has k l _ _ (Mill.isMap_put D hD _ _) ?_
  by_cases hp:p.1=k
  ·rw [if_pos hp,hp,has_put_same hD (by trivial)]
  ·rw [if_neg hp,has_put_other (by intro e;exact hp (by injection e with e1;exact e1.symm)),h]
theorem Mill.typeOf_ba (k:List UInt8):Mill.typeOf (Mill.ba k)=if k=[98,111,111,108] then 1 else if k=[116,101,120,116] then 2 else if k=[117,56] then 3 else if k=[117,49,54] then 4 else if k=[117,51,50] then 5 else if k=[117,54,52] then 6 else if k=[105,56] then 7 else if k=[105,49,54] then 8 else if k=[105,51,50] then 9 else if k=[105,54,52] then 10 else 0:=by
 have hk:(Mill.ba k).toList=k:=by rw [ByteArray.toList_eq];rfl
 have he:∀ m:List UInt8,((⟨m.toArray⟩:ByteArray).toList == (Mill.ba k).toList)=true ↔ k=m:=fun m=>by rw [hk,ByteArray.toList_eq];show (m == k)=true ↔ k=m;rw [beq_iff_eq];exact eq_comm
 unfold Mill.typeOf
 simp only [Mill.typeFrom]
 rw [show Mill.typeWord 1=⟨[98,111,111,108].toArray⟩ from rfl]
 rw [show Mill.typeWord (1+1)=⟨[116,101,120,116].toArray⟩ from rfl]
 rw [show Mill.typeWord (1+1+1)=⟨[117,56].toArray⟩ from rfl]
 rw [show Mill.typeWord (1+1+1+1)=⟨[117,49,54].toArray⟩ from rfl]
 rw [show Mill.typeWord (1+1+1+1+1)=⟨[117,51,50].toArray⟩ from rfl]
 rw [show Mill.typeWord (1+1+1+1+1+1)=⟨[117,54,52].toArray⟩ from rfl]
 rw [show Mill.typeWord (1+1+1+1+1+1+1)=⟨[105,56].toArray⟩ from rfl]
 rw [show Mill.typeWord (1+1+1+1+1+1+1+1)=⟨[105,49,54].toArray⟩ from rfl]
 rw [show Mill.typeWord (1+1+1+1+1+1+1+1+1)=⟨[105,51,50].toArray⟩ from rfl]
 rw [show Mill.typeWord (1+1+1+1+1+1+1+1+1+1)=⟨[105,54,52].toArray⟩ from rfl]
 simp only [he]
 rfl
theorem Mill.typeOf_mem (k:List UInt8):Mill.typeOf (Mill.ba k)≠0 ↔ k ∈ Mill.typeWords:=by
 rw [Mill.typeOf_ba]
 simp only [Mill.typeWords,List.mem_cons,List.not_mem_nil,or_false]
 by_cases h0:k=[98,111,111,108]
 ·simp [h0]
 by_cases h1:k=[116,101,120,116]
 ·simp [h1]
 by_cases h2:k=[117,56]
 ·simp [h2]
 by_cases h3:k=[117,49,54]
 ·simp [h3]
 by_cases h4:k=[117,51,50]
 ·simp [h4]
 by_cases h5:k=[117,54,52]
 ·simp [h5]
 by_cases h6:k=[105,56]
 ·simp [h6]
 by_cases h7:k=[105,49,54]
 ·simp [h7]
 by_cases h8:k=[105,51,50]
 ·simp [h8]
 by_cases h9:k=[105,54,52]
 ·simp [h9]
 simp [h0,h1,h2,h3,h4,h5,h6,h7,h8,h9]
theorem Mill.builtIn_mem (k:List UInt8):Mill.builtIn (Mill.ba k) 12 1=true ↔ k ∈ Mill.builtWords:=by
 have hk:(Mill.ba k).toList=k:=by rw [ByteArray.toList_eq];rfl
 have he:∀ m:List UInt8,((⟨m.toArray⟩:ByteArray).toList == (Mill.ba k).toList)=decide (k=m):=fun m=>by
  rw [hk,ByteArray.toList_eq];show (m == k)=decide (k=m)
  rw [Bool.eq_iff_iff];simp only [beq_iff_eq,decide_eq_true_eq];exact eq_comm
 simp only [Mill.builtIn]
 rw [show Mill.builtWord 1=⟨[114,101,97,100].toArray⟩ from rfl]
 rw [show Mill.builtWord (1+1)=⟨[104,97,115].toArray⟩ from rfl]
 rw [show Mill.builtWord (1+1+1)=⟨[108,105,115,116].toArray⟩ from rfl]
 rw [show Mill.builtWord (1+1+1+1)=⟨[116,111,111,108].toArray⟩ from rfl]
 rw [show Mill.builtWord (1+1+1+1+1)=⟨[97,114,103].toArray⟩ from rfl]
 rw [show Mill.builtWord (1+1+1+1+1+1)=⟨[108,101,110].toArray⟩ from rfl]
 rw [show Mill.builtWord (1+1+1+1+1+1+1)=⟨[97,116].toArray⟩ from rfl]
 rw [show Mill.builtWord (1+1+1+1+1+1+1+1)=⟨[99,117,116].toArray⟩ from rfl]
 rw [show Mill.builtWord (1+1+1+1+1+1+1+1+1)=⟨[102,105,110,100].toArray⟩ from rfl]
 rw [show Mill.builtWord (1+1+1+1+1+1+1+1+1+1)=⟨[99,104,114].toArray⟩ from rfl]
 rw [show Mill.builtWord (1+1+1+1+1+1+1+1+1+1+1)=⟨[100,101,99].toArray⟩ from rfl]
 rw [show Mill.builtWord (1+1+1+1+1+1+1+1+1+1+1+1)=⟨[110,117,109].toArray⟩ from rfl]
 simp only [he,Mill.builtWords,Bool.or_eq_true,decide_eq_true_eq,List.mem_cons,List.not_mem_nil,Bool.false_eq_true]
theorem Mill.taken_mem (k:List UInt8):Mill.taken (Mill.ba k)=true ↔ k ∈ Mill.wordList.map Prod.fst:=by
 have hk:(Mill.ba k).toList=k:=by rw [ByteArray.toList_eq];rfl
 have hw:Mill.wordList.map Prod.fst=Mill.typeWords++(Mill.plainWords++Mill.builtWords):=rfl
 have ha:Mill.plainWords.any (fun p=>p == (Mill.ba k).toList)=true ↔ k ∈ Mill.plainWords:=by
  rw [hk,List.any_eq_true]
  constructor
  ·rintro ⟨x,hx,h⟩;rw [← beq_iff_eq.1 h];exact hx
  ·intro h;exact ⟨k,h,by simp⟩
 have ht:(Mill.typeOf (Mill.ba k) != 0)=true ↔ k ∈ Mill.typeWords:=by rw [bne_iff_ne];exact Mill.typeOf_mem k
 rw [hw,List.mem_append,List.mem_append,Mill.taken,Bool.or_eq_true,Bool.or_eq_true,ht,ha,Mill.builtIn_mem]
 constructor
 ·rintro ((h | h) | h)
  ·exact .inl h
  ·exact .inr (.inr h)
  ·exact .inr (.inl h)
 ·rintro (h | h | h)
  ·exact .inl (.inl h)
  ·exact .inr h
  ·exact .inl (.inr h)
theorem Mill.fold_any (k:List UInt8):∀ (l:List (List UInt8 × Int)) (r:Bool),l.foldl (fun r p=>if p.1=k then true else r) r=true ↔ r=true∨k ∈ l.map Prod.fst
 | [],r=>by simp
 | p::l,r=>by
  rw [List.foldl_cons,Mill.fold_any k l]
  by_cases hp:p.1=k
  ·simp [hp]
  ·rw [if_neg hp];simp only [List.map_cons,List.mem_cons]
   constructor
   ·rintro (h | h)
    ·exact .inl h
    ·exact .inr (.inr h)
   ·rintro (h | h | h)
    ·exact .inl h
    ·exact absurd h.symm hp
    ·exact .inr h
theorem Mill.words_has (k:List UInt8):Maps.has Mill.wordsD (.string k)=Mill.taken (Mill.ba k):=by
 rw [Mill.wordsD,Mill.fold_has k Mill.wordList (.map []) false ⟨[],rfl⟩ rfl,Bool.eq_iff_iff,Mill.fold_any,Mill.taken_mem]
 simp
theorem Mill.words_at (k:List UInt8):(Mill.wordsD).atKey (.string k) (.lit (.int .i64 0)) = .lit (.int .i64 (Mill.typeOf (Mill.ba k))):=by
 rw [Mill.wordsD,Mill.fold_at k Mill.wordList (.map []) 0 ⟨[],rfl⟩ rfl,Mill.typeOf_ba]
 congr 2
 simp only [Mill.wordList,List.foldl_cons,List.foldl_nil]
 by_cases h0:k=[98,111,111,108]
 ·subst h0;decide
 by_cases h1:k=[116,101,120,116]
 ·subst h1;decide
 by_cases h2:k=[117,56]
 ·subst h2;decide
 by_cases h3:k=[117,49,54]
 ·subst h3;decide
 by_cases h4:k=[117,51,50]
 ·subst h4;decide
 by_cases h5:k=[117,54,52]
 ·subst h5;decide
 by_cases h6:k=[105,56]
 ·subst h6;decide
 by_cases h7:k=[105,49,54]
 ·subst h7;decide
 by_cases h8:k=[105,51,50]
 ·subst h8;decide
 by_cases h9:k=[105,54,52]
 ·subst h9;decide
 have g0:¬ [98,111,111,108]=k:=fun e=>h0 e.symm
 have g1:¬ [116,101,120,116]=k:=fun e=>h1 e.symm
 have g2:¬ [117,56]=k:=fun e=>h2 e.symm
 have g3:¬ [117,49,54]=k:=fun e=>h3 e.symm
 have g4:¬ [117,51,50]=k:=fun e=>h4 e.symm
 have g5:¬ [117,54,52]=k:=fun e=>h5 e.symm
 have g6:¬ [105,56]=k:=fun e=>h6 e.symm
 have g7:¬ [105,49,54]=k:=fun e=>h7 e.symm
 have g8:¬ [105,51,50]=k:=fun e=>h8 e.symm
 have g9:¬ [105,54,52]=k:=fun e=>h9 e.symm
 simp only [if_neg h0,if_neg h1,if_neg h2,if_neg h3,if_neg h4,if_neg h5,if_neg h6,if_neg h7,if_neg h8,if_neg h9,if_neg g0,if_neg g1,if_neg g2,if_neg g3,if_neg g4,if_neg g5,if_neg g6,if_neg g7,if_neg g8,if_neg g9,ite_self]
open Go.RowKit
theorem Mill.high_no (r:Int) (h:128≤r):Mill.letter r=false∧Mill.digit r=false∧(r != 95)=true:=by
 refine ⟨?_, ?_, ?_⟩
 ·simp [Mill.letter];omega
 ·simp [Mill.digit];omega
 ·simp;omega
theorem Mill.tail_no (r:Int) (h:Mill.tail r=false):Mill.letter r=false∧Mill.digit r=false∧(r != 95)=true:=by
 simp [Mill.tail] at h;simp [h]
theorem wordSize_any (s:ByteArray) (w:World) (hs:s.size≤1048576) :
  Calls Tryz.prog 87 #[.string s] w fun e w'=>e = .returned (.int .i64 (Mill.wlen s 0:Int))∧Below w.heap.size w w':=by
 have hwl:=Mill.wlen_le s 0
 go_enter Tryz.func87,Tryz.ntmps87
 go_wp2
 go_loopw [3,4] (fun _ _ wr => ∃ pos:Nat,pos≤s.size∧pos - 0≤Mill.wlen s 0∧wr.heap[w.heap.size]? = some (.stringIter s pos)∧Below w.heap.size w wr) (fun _ _ wr=>s.size - wr.iterPos w.heap.size)
 case atStart=>exact ⟨0,by omega,by omega,World.iter_heap w s 0,(Below.refl _ _).alloc (Nat.le_refl _) _⟩
 case round =>
  obtain ⟨pos,hp0,hp1,hit,hbw⟩:=hrel
  have hpos0:=iterPos_of hit
  by_cases hp:pos < s.size
  ·by_cases ha:s[pos].toNat < 128
   ·have hnx:∀ ty,(Instr.next (.pointer (some ⟨w.heap.size,0,none⟩)) true ty).run Tryz.prog wr=_:=fun ty=>Lib.run_next_ascii_at wr w.heap.size s pos ty hit hp ha
    have hit2:=Lib.iterAt_heap wr w.heap.size s pos (pos+1) hit
    have hbw2:=Lib.below_iterAt hbw (k:=w.heap.size) (Nat.le_refl _) s (pos+1)
    cases ht:Mill.tail (s[pos].toNat:Int) with
    | true =>
     have hp2:=Mill.tail_step s 0 pos hp (by omega) hp1 ht
     obtain ⟨W1,hW1⟩:∃ W1,W1=wr.iterAt w.heap.size s (pos+1):=⟨_,rfl⟩
     rw [← hW1] at hnx hit2 hbw2
     clear hW1 hit hbw
     have ht2:=ht
     simp only [Mill.tail] at ht2
     cases h1:Mill.letter (s[pos].toNat:Int) <;> cases h2:Mill.digit (s[pos].toNat:Int) <;> cases h3:((s[pos].toNat:Int) != 95)
     all_goals try (exfalso;rw [h1,h2] at ht2;simp at ht2 h3;omega)
     all_goals
      clear ht2
      go_wp2_with (first
       | (go_at_call 59;refine (isLetter_any _ _).mono ?_;rintro e w' ⟨rfl,rfl⟩;rw [h1])
       | (go_at_call 61;refine (isDigit_any _ _).mono ?_;rintro e w' ⟨rfl,rfl⟩;rw [h2]))
      go_roundw
      case rel=>exact ⟨pos+1,by omega,hp2,hit2,hbw2⟩
      case measure=>rw [iterPos_of hit2,hpos0];omega
    | false =>
     have hst:=Mill.tail_stop s 0 pos (by omega) hp1 (fun _=>ht)
     obtain ⟨h1,h2,h3⟩:=Mill.tail_no _ ht
     have HW:Hid ((pos:Int)=(Mill.wlen s 0:Int)):=by rw [Hid];omega
     clear hst hp1 hwl
     obtain ⟨W1,hW1⟩:∃ W1,W1=wr.iterAt w.heap.size s (pos+1):=⟨_,rfl⟩
     rw [← hW1] at hnx hit2 hbw2
     clear hW1 hit hbw
     go_wp2_with (first
      | (go_at_call 59;refine (isLetter_any _ _).mono ?_;rintro e w' ⟨rfl,rfl⟩;rw [h1])
      | (go_at_call 61;refine (isDigit_any _ _).mono ?_;rintro e w' ⟨rfl,rfl⟩;rw [h2]))
     go_ret
     exact ⟨Mill.ret_int HW.out,hbw2⟩
   ·have hnx:∀ ty,(Instr.next (.pointer (some ⟨w.heap.size,0,none⟩)) true ty).run Tryz.prog wr=_:=fun ty=>Lib.run_next_any_at wr w.heap.size s pos ty hit hp
    have hdh:=decode_high s pos hp (by omega)
    have hit2:=Lib.iterAt_heap wr w.heap.size s pos (pos+(Utf8.decode s pos).2) hit
    have hbw2:=Lib.below_iterAt hbw (k:=w.heap.size) (Nat.le_refl _) s (pos+(Utf8.decode s pos).2)
    have htf:Mill.tail (s[pos].toNat:Int)=false:=by simp [Mill.tail,Mill.letter,Mill.digit];omega
    have hst:=Mill.tail_stop s 0 pos (by omega) hp1 (fun _=>htf)
    obtain ⟨h1,h2,h3⟩:=Mill.high_no ((Utf8.decode s pos).1:Int) (by omega)
    have HW:Hid ((pos:Int)=(Mill.wlen s 0:Int)):=by rw [Hid];omega
    clear hst hp1 hwl htf hdh
    obtain ⟨W1,hW1⟩:∃ W1,W1=wr.iterAt w.heap.size s (pos+(Utf8.decode s pos).2):=⟨_,rfl⟩
    rw [← hW1] at hnx hit2 hbw2
    clear hW1 hit hbw
    generalize ((Utf8.decode s pos).1:Int)=r at *
    go_wp2_with (first
     | (go_at_call 59;refine (isLetter_any _ _).mono ?_;rintro e w' ⟨rfl,rfl⟩;rw [h1])
     | (go_at_call 61;refine (isDigit_any _ _).mono ?_;rintro e w' ⟨rfl,rfl⟩;rw [h2]))
    go_ret
    exact ⟨Mill.ret_int HW.out,hbw2⟩
  ·have hnx:∀ ty,(Instr.next (.pointer (some ⟨w.heap.size,0,none⟩)) true ty).run Tryz.prog wr=_:=fun ty=>Lib.run_next_end_at wr w.heap.size s pos ty hit hp
   have hst:=Mill.tail_stop s 0 pos (by omega) hp1 (fun h=>absurd h hp)
   have HW:Hid ((s.size:Int)=(Mill.wlen s 0:Int)):=by rw [Hid];omega
   clear hst hp1 hwl
   go_wp2
   go_ret
   exact ⟨Mill.ret_int HW.out,hbw⟩
theorem digitsSize_any (s:ByteArray) (w:World) (hs:s.size≤1048576) :
  Calls Tryz.prog 89 #[.string s] w fun e w'=>e = .returned (.int .i64 (Mill.digLen s.data.toList:Int))∧Below w.heap.size w w':=by
 have hwl:=Mill.digLen_le s
 go_enter Tryz.func89,Tryz.ntmps89
 go_wp2
 go_loopw [3,4] (fun _ _ wr => ∃ pos:Nat,pos≤s.size∧pos≤Mill.digLen s.data.toList∧wr.heap[w.heap.size]? = some (.stringIter s pos)∧Below w.heap.size w wr) (fun _ _ wr=>s.size - wr.iterPos w.heap.size)
 case atStart=>exact ⟨0,by omega,by omega,World.iter_heap w s 0,(Below.refl _ _).alloc (Nat.le_refl _) _⟩
 case round =>
  obtain ⟨pos,hp0,hp1,hit,hbw⟩:=hrel
  have hpos0:=iterPos_of hit
  by_cases hp:pos < s.size
  ·by_cases ha:s[pos].toNat < 128
   ·have hnx:∀ ty,(Instr.next (.pointer (some ⟨w.heap.size,0,none⟩)) true ty).run Tryz.prog wr=_:=fun ty=>Lib.run_next_ascii_at wr w.heap.size s pos ty hit hp ha
    have hit2:=Lib.iterAt_heap wr w.heap.size s pos (pos+1) hit
    have hbw2:=Lib.below_iterAt hbw (k:=w.heap.size) (Nat.le_refl _) s (pos+1)
    cases ht:Mill.digit (s[pos].toNat:Int) with
    | true =>
     have hp2:=Mill.dig_step s pos hp hp1 ht
     obtain ⟨W1,hW1⟩:∃ W1,W1=wr.iterAt w.heap.size s (pos+1):=⟨_,rfl⟩
     rw [← hW1] at hnx hit2 hbw2
     clear hW1 hit hbw
     go_wp2_with (go_at_call 61;refine (isDigit_any _ _).mono ?_;rintro e w' ⟨rfl,rfl⟩;rw [ht])
     go_roundw
     case rel=>exact ⟨pos+1,by omega,hp2,hit2,hbw2⟩
     case measure=>rw [iterPos_of hit2,hpos0];omega
    | false =>
     have hst:=Mill.dig_stop s pos hp1 (fun _=>ht)
     have h2:=ht
     have HW:Hid ((pos:Int)=(Mill.digLen s.data.toList:Int)):=by rw [Hid];omega
     clear hst hp1 hwl
     obtain ⟨W1,hW1⟩:∃ W1,W1=wr.iterAt w.heap.size s (pos+1):=⟨_,rfl⟩
     rw [← hW1] at hnx hit2 hbw2
     clear hW1 hit hbw
     go_wp2_with (go_at_call 61;refine (isDigit_any _ _).mono ?_;rintro e w' ⟨rfl,rfl⟩;rw [h2])
     go_ret
     exact ⟨Mill.ret_int HW.out,hbw2⟩
   ·have hnx:∀ ty,(Instr.next (.pointer (some ⟨w.heap.size,0,none⟩)) true ty).run Tryz.prog wr=_:=fun ty=>Lib.run_next_any_at wr w.heap.size s pos ty hit hp
    have hdh:=decode_high s pos hp (by omega)
    have hit2:=Lib.iterAt_heap wr w.heap.size s pos (pos+(Utf8.decode s pos).2) hit
    have hbw2:=Lib.below_iterAt hbw (k:=w.heap.size) (Nat.le_refl _) s (pos+(Utf8.decode s pos).2)
    have htf:Mill.digit (s[pos].toNat:Int)=false:=by simp [Mill.digit];omega
    have hst:=Mill.dig_stop s pos hp1 (fun _=>htf)
    obtain ⟨_,h2,_⟩:=Mill.high_no ((Utf8.decode s pos).1:Int) (by omega)
    have HW:Hid ((pos:Int)=(Mill.digLen s.data.toList:Int)):=by rw [Hid];omega
    clear hst hp1 hwl htf hdh
    obtain ⟨W1,hW1⟩:∃ W1,W1=wr.iterAt w.heap.size s (pos+(Utf8.decode s pos).2):=⟨_,rfl⟩
    rw [← hW1] at hnx hit2 hbw2
    clear hW1 hit hbw
    generalize ((Utf8.decode s pos).1:Int)=r at *
    go_wp2_with (go_at_call 61;refine (isDigit_any _ _).mono ?_;rintro e w' ⟨rfl,rfl⟩;rw [h2])
    go_ret
    exact ⟨Mill.ret_int HW.out,hbw2⟩
  ·have hnx:∀ ty,(Instr.next (.pointer (some ⟨w.heap.size,0,none⟩)) true ty).run Tryz.prog wr=_:=fun ty=>Lib.run_next_end_at wr w.heap.size s pos ty hit hp
   have hst:=Mill.dig_stop s pos hp1 (fun h=>absurd h hp)
   have HW:Hid ((s.size:Int)=(Mill.digLen s.data.toList:Int)):=by rw [Hid];omega
   clear hst hp1 hwl
   go_wp2
   go_ret
   exact ⟨Mill.ret_int HW.out,hbw⟩
end Go.Proofs.YtlcckaffhnjneaaGreatDoor
