import Derived.Test.YtkikhpppkpelfaaGreatRows
import Derived.WalkKit
import Derived.ProofKit
import Derived.OwnWalk
import Derived.Deep.QuietTactic
import Derived.BigQuiet
import Derived.Laws.Cover1
import Derived.Deep.RegionWith
set_option maxRecDepth 100000
set_option maxHeartbeats 1000000
namespace Go.Proofs.YtkikhpppkpelfaaGreat
open Go.RowKit
theorem Rp.row2 {w w1:World} {a0 a1:Value} {t:TypeId} (hb:Below (w.heap.size+1) (w.alloc (.cells #[a0,a1] t)) w1) :
    w1.cell? ⟨w.heap.size,0,none⟩=some a0∧w1.cell? ⟨w.heap.size,1,none⟩=some a1:=by
  have h1:=hb.block w.heap.size (by omega)
  rw [(MapKept.heap_alloc w _).1] at h1
  simp [World.cell?,h1]
theorem Jb.drop_cons (s:ByteArray) (k:Nat) (h:k < s.size):s.data.toList.drop k=s[k]::s.data.toList.drop (k+1):=by
  rw [List.drop_eq_getElem_cons (by simpa using h)];rfl
theorem Jb.ret_bool {a b:Bool} (h:a=b):(Ending.returned (.bool a):Ending) = .returned (.bool b):=by rw [h]
def Jb.byte (c:UInt8):Bool := !(decide ((c.toNat:Int) < 33) || decide (126 < (c.toNat:Int)))
def Jb.start (s:ByteArray):Bool:=decide (s.size≤60) && s.data.toList.all Jb.byte
def Jb.name (s:ByteArray):Bool:=decide (1≤s.size) && Jb.start s
theorem Jb.start_long {s:ByteArray} (h:¬ s.size≤60):Jb.start s=false:=by unfold Jb.start;simp [h]
theorem Jb.start_is {s:ByteArray} (h:s.size≤60):Jb.start s=s.data.toList.all Jb.byte:=by unfold Jb.start;simp [h]
theorem Jb.toList_size (s:ByteArray):s.toList.length=s.size:=by rw [ByteArray.toList_eq];rfl
theorem Jb.byte_low {c:UInt8} (h:(c.toNat:Int) < 33):Jb.byte c=false:=by unfold Jb.byte;simp [h]
theorem Jb.byte_high {c:UInt8} (h:126 < (c.toNat:Int)):Jb.byte c=false:=by unfold Jb.byte;simp [h]
theorem Jb.byte_ok {c:UInt8} (h:¬ (c.toNat:Int) < 33) (h2:¬ 126 < (c.toNat:Int)):Jb.byte c=true:=by unfold Jb.byte;simp [h,h2]
theorem Jb.prefix_any (s:ByteArray) (hs:s.size≤1048576) (w:World) :
    Calls Tryz.prog 38 #[.string s] w fun e w'=>e = .returned (.bool (Jb.start s))∧w=w':=by
  by_cases h:s.size≤60
  · have HV:Hid (Jb.start s=s.data.toList.all Jb.byte):=Jb.start_is h
    go_enter Tryz.func38,Tryz.ntmps38
    go_wp2
    go_loop [3] (fun t => ∃ k:Nat,k≤s.size∧t = .int .i64 (k:Int)∧(s.data.toList.drop k).all Jb.byte=s.data.toList.all Jb.byte) (fun t=>s.size - (intOf t).toNat)
    case atStart=>exact ⟨0,by omega,rfl,rfl⟩
    case round =>
      obtain ⟨k,hk,rfl,hf⟩:=hrel
      by_cases hlt:k < s.size
      · rw [Jb.drop_cons s k hlt,List.all_cons] at hf
        by_cases hl:(s[k].toNat:Int) < 33
        · have HF:Hid (Jb.start s=false):=by rw [Jb.byte_low hl] at hf;rw [Hid,HV.out,← hf];rfl
          clear hf
          go_wp2
          go_ret
          exact ⟨Jb.ret_bool HF.out.symm,rfl⟩
        · by_cases hh:126 < (s[k].toNat:Int)
          · have HF:Hid (Jb.start s=false):=by rw [Jb.byte_high hh] at hf;rw [Hid,HV.out,← hf];rfl
            clear hf
            go_wp2
            go_ret
            exact ⟨Jb.ret_bool HF.out.symm,rfl⟩
          · have HF:Hid ((s.data.toList.drop (k+1)).all Jb.byte=s.data.toList.all Jb.byte):=by rw [Jb.byte_ok hl hh] at hf;exact hf
            clear hf
            go_wp2
            go_round
            case rel=>exact ⟨k+1,by omega,by go_num,HF.out⟩
            case measure=>simp [intOf];omega
      · have HF:Hid (Jb.start s=true):=by
          rw [List.drop_of_length_le (by simp;omega)] at hf
          rw [Hid,HV.out,← hf];rfl
        clear hf
        go_wp2
        go_ret
        exact ⟨Jb.ret_bool HF.out.symm,rfl⟩
  · have HV:Hid (Jb.start s=false):=Jb.start_long h
    go_enter Tryz.func38,Tryz.ntmps38
    go_wp2
    go_ret
    exact ⟨Jb.ret_bool HV.out.symm,rfl⟩
theorem Jb.start_any (s:ByteArray) (hs:s.size≤1048576) (w:World) :
    Calls Tryz.prog 61 #[.string s] w fun e w'=>e = .returned (.bool (Jb.start s))∧w=w':=by
  by_cases h:s.size≤60
  · have HV:Hid (Jb.start s=s.data.toList.all Jb.byte):=Jb.start_is h
    go_enter Tryz.func61,Tryz.ntmps61
    go_wp2
    go_loop [9] (fun t => ∃ k:Nat,k≤s.size∧t = .int .i64 (k:Int)∧(s.data.toList.drop k).all Jb.byte=s.data.toList.all Jb.byte) (fun t=>s.size - (intOf t).toNat)
    case atStart=>exact ⟨0,by omega,rfl,rfl⟩
    case round =>
      obtain ⟨k,hk,rfl,hf⟩:=hrel
      by_cases hlt:k < s.size
      · rw [Jb.drop_cons s k hlt,List.all_cons] at hf
        by_cases hl:(s[k].toNat:Int) < 33
        · have HF:Hid (Jb.start s=false):=by rw [Jb.byte_low hl] at hf;rw [Hid,HV.out,← hf];rfl
          clear hf
          go_wp2
          go_ret
          exact ⟨Jb.ret_bool HF.out.symm,rfl⟩
        · by_cases hh:126 < (s[k].toNat:Int)
          · have HF:Hid (Jb.start s=false):=by rw [Jb.byte_high hh] at hf;rw [Hid,HV.out,← hf];rfl
            clear hf
            go_wp2
            go_ret
            exact ⟨Jb.ret_bool HF.out.symm,rfl⟩
          · have HF:Hid ((s.data.toList.drop (k+1)).all Jb.byte=s.data.toList.all Jb.byte):=by rw [Jb.byte_ok hl hh] at hf;exact hf
            clear hf
            go_wp2
            go_round
            case rel=>exact ⟨k+1,by omega,by go_num,HF.out⟩
            case measure=>simp [intOf];omega
      · have HF:Hid (Jb.start s=true):=by
          rw [List.drop_of_length_le (by simp;omega)] at hf
          rw [Hid,HV.out,← hf];rfl
        clear hf
        go_wp2
        go_ret
        exact ⟨Jb.ret_bool HF.out.symm,rfl⟩
  · have HV:Hid (Jb.start s=false):=Jb.start_long h
    go_enter Tryz.func61,Tryz.ntmps61
    go_wp2
    go_ret
    exact ⟨Jb.ret_bool HV.out.symm,rfl⟩
theorem Jb.path_any (s:ByteArray) (hs:s.size≤1048576) (w:World) :
    Calls Tryz.prog 24 #[.string s] w fun e w'=>e = .returned (.bool (Jb.name s))∧w=w':=by
  obtain ⟨b,HB⟩:∃ b,Hid (Jb.start s=b):=⟨_,(rfl:Jb.start s=_)⟩
  unfold Jb.name
  rw [HB.out]
  by_cases h:1≤s.size
  · have hne:s.toList.isEmpty=false:=by have e:=Jb.toList_size s;cases ht:s.toList with | nil=>(rw [ht] at e;simp at e;omega) | cons a r=>rfl
    simp only [h,decide_true,Bool.true_and]
    go_enter Tryz.func24,Tryz.ntmps24
    go_wp2_with (go_at_call 38;refine (Jb.prefix_any s hs _).mono ?_;rintro e w1 ⟨rfl,rfl⟩;rw [HB.out])
    all_goals (go_ret;exact ⟨rfl,rfl⟩)
  · have hne:s.toList.isEmpty=true:=by have e:=Jb.toList_size s;cases ht:s.toList with | nil=>rfl | cons a r=>(rw [ht] at e;simp at e;omega)
    simp only [h,decide_false,Bool.false_and]
    go_enter Tryz.func24,Tryz.ntmps24
    go_wp2
    all_goals (go_ret;exact ⟨rfl,rfl⟩)
theorem Jb.file_any (s:ByteArray) (hs:s.size≤1048576) (w:World) :
    Calls Tryz.prog 44 #[.string s] w fun e w'=>e = .returned (.bool (Jb.name s))∧w=w':=by
  obtain ⟨b,HB⟩:∃ b,Hid (Jb.start s=b):=⟨_,(rfl:Jb.start s=_)⟩
  unfold Jb.name
  rw [HB.out]
  by_cases h:1≤s.size
  · have hne:s.toList.isEmpty=false:=by have e:=Jb.toList_size s;cases ht:s.toList with | nil=>(rw [ht] at e;simp at e;omega) | cons a r=>rfl
    simp only [h,decide_true,Bool.true_and]
    go_enter Tryz.func44,Tryz.ntmps44
    go_wp2_with (go_at_call 61;refine (Jb.start_any s hs _).mono ?_;rintro e w1 ⟨rfl,rfl⟩;rw [HB.out])
    all_goals (go_ret;exact ⟨rfl,rfl⟩)
  · have hne:s.toList.isEmpty=true:=by have e:=Jb.toList_size s;cases ht:s.toList with | nil=>rfl | cons a r=>(rw [ht] at e;simp at e;omega)
    simp only [h,decide_false,Bool.false_and]
    go_enter Tryz.func44,Tryz.ntmps44
    go_wp2
    all_goals (go_ret;exact ⟨rfl,rfl⟩)
theorem Jb.quiet {P:Program} {f:FuncId} {args:Array Value} {w:World} {n:Nat} {v:Value}
    (h:Calls P f args (w.drewN n) fun e w'=>e = .returned v∧w.drewN n=w'):Calls P f args (w.drewN n) fun e w''=>e = .returned v∧∃ m,w''=w.drewN m :=
  h.mono fun _ _ ⟨he,hm⟩=>⟨he,n,hm.symm⟩
theorem Jb.below_drewN {B:Nat} {a w:World} (n:Nat) (h:Below B a w):Below B a (w.drewN n):=⟨h.os,h.tape,h.output,h.size,h.block⟩
theorem Jb.path_is (s:ByteArray) (b:Bool) (h:Hid (Jb.name s=b)) (hs:s.size≤1048576) (w:World):Calls Tryz.prog 24 #[.string s] w fun e w'=>e = .returned (.bool b)∧w=w':=by
  rw [← h.out];exact Jb.path_any s hs w
theorem Jb.file_is (s:ByteArray) (b:Bool) (h:Hid (Jb.name s=b)) (hs:s.size≤1048576) (w:World):Calls Tryz.prog 44 #[.string s] w fun e w'=>e = .returned (.bool b)∧w=w':=by
  rw [← h.out];exact Jb.file_any s hs w
theorem Jb.less_le (x y:List UInt8):(Op.bytesLess x y || x == y) = !Op.bytesLess y x:=by
  induction x generalizing y with
  | nil=>cases y with
    | nil=>rfl
    | cons b s=>rfl
  | cons a r ih=>cases y with
    | nil=>rfl
    | cons b s =>
      have h:=ih s
      simp only [Op.bytesLess]
      by_cases h1:a=b
      · subst h1
        have e1:decide (a < a)=false:=by simp
        simp only [e1,Bool.false_or,BEq.rfl,Bool.true_and,List.cons_beq_cons]
        exact h
      · have e1:(a == b)=false:=by simpa using h1
        have e2:(b == a)=false:=by simpa using fun e=>h1 e.symm
        simp only [e1,e2,Bool.false_and,Bool.or_false,List.cons_beq_cons]
        have h1':a.toNat≠b.toNat:=fun e=>h1 (UInt8.toNat_inj.1 e)
        by_cases h2:a < b
        · have h3:¬ b < a:=by rw [UInt8.lt_iff_toNat_lt] at *;omega
          simp [h2,h3]
        · have h3:b < a:=by rw [UInt8.lt_iff_toNat_lt] at *;omega
          simp [h2,h3]
structure Bx.Fl where
  name:ByteArray
  text:ByteArray
def Bx.fC (f:Bx.Fl):List Value:=[.string f.name,.string f.text]
def Bx.fCs (fs:List Bx.Fl):List Value:=fs.flatMap Bx.fC
theorem Bx.fCs_length (fs:List Bx.Fl):(Bx.fCs fs).length=fs.length * 2:=by
  induction fs with
  | nil=>rfl
  | cons a r ih=>unfold Bx.fCs at ih ⊢;rw [List.flatMap_cons,List.length_append,ih];simp only [Bx.fC,List.length_cons,List.length_nil];omega
theorem Bx.fCs_at (fs:List Bx.Fl) (i:Nat) (hi:i < fs.length):(Bx.fCs fs)[i * 2]? = some (.string fs[i].name)∧(Bx.fCs fs)[i * 2+1]? = some (.string fs[i].text):=by
  induction fs generalizing i with
  | nil=>simp at hi
  | cons a r ih =>
    cases i with
    | zero=>exact ⟨rfl,rfl⟩
    | succ k =>
      have hk:k < r.length:=by simpa using hi
      obtain ⟨h1,h2⟩:=ih k hk
      have e:Bx.fCs (a::r) = .string a.name :: .string a.text::Bx.fCs r:=rfl
      rw [e,(by omega:(k+1) * 2=k * 2+1+1)]
      simp only [List.getElem?_cons_succ,List.getElem_cons_succ]
      exact ⟨h1,h2⟩
def Bx.Off (w:World) (v:Value) (fs:List Bx.Fl):Prop :=
  ∃ a cap,v = .slice a fs.length cap∧∀ i (hi:i < fs.length),∃ g o,a=some ⟨g,o,none⟩∧g < w.heap.size∧w.cell? ⟨g,o+i * 2,none⟩=some (.string fs[i].name)∧w.cell? ⟨g,o+i * 2+1,none⟩=some (.string fs[i].text)
theorem Bx.Off.below {w w':World} {v:Value} {fs:List Bx.Fl} (h:Bx.Off w v fs) (hb:Below w.heap.size w w'):Bx.Off w' v fs:=by
  obtain ⟨a,cap,rfl,hc⟩:=h
  refine ⟨a,cap,rfl,fun i hi => ?_⟩
  obtain ⟨g,o,ha,hg,h1,h2⟩:=hc i hi
  exact ⟨g,o,ha,Nat.lt_of_lt_of_le hg hb.size,by rw [hb.cell (p:=⟨g,o+i * 2,none⟩) hg];exact h1,by rw [hb.cell (p:=⟨g,o+i * 2+1,none⟩) hg];exact h2⟩
theorem Bx.Off.slice {w:World} {v:Value} {fs:List Bx.Fl} (h:Bx.Off w v fs):∃ p c,v = .slice p fs.length c:=by
  obtain ⟨p,c,h,_⟩:=h;exact ⟨p,c,h⟩
theorem Tryz.infoFile : (Tryz.prog.info? 36).map (fun i=>(i.zero,i.size,i.bytes))=some (some (.agg #[.string ByteArray.empty,.string ByteArray.empty]),2,32):=by kernel_rfl
theorem Bx.own_below {W W':World} {B e size n:Nat} {v:Value} {xs:List Value} (h:W.ownsRow B e size v n xs) (hb:Below W.heap.size W W'):W'.ownsRow B e size v n xs:=by
  refine ⟨h.1, ?_⟩
  rcases h.2 with hn | ⟨g,cap,cur,hv,hg,hgg,rest⟩
  · exact .inl hn
  · exact .inr ⟨g,cap,cur,hv,hg,by rw [hb.block g (Array.getElem?_eq_some_iff.1 hgg).1];exact hgg,rest⟩
theorem Bx.own_mono {w:World} {B B' e size n:Nat} {v:Value} {xs:List Value} (h:w.ownsRow B e size v n xs) (hB:B'≤B):w.ownsRow B' e size v n xs:=by
  refine ⟨h.1, ?_⟩
  rcases h.2 with hn | ⟨g,cap,cur,hv,hg,rest⟩
  · exact .inl hn
  · exact .inr ⟨g,cap,cur,hv,Nat.le_trans hB hg,rest⟩
theorem Bx.rowLen {w:World} {B e size n:Nat} {v:Value} {xs:List Value} (h:w.ownsRow B e size v n xs):∃ a cap,v = .slice a n cap:=by
  rcases h.2 with ⟨rfl,h0⟩ | ⟨g,cap,cur,rfl,_⟩
  · exact ⟨none,0,by rw [h0]⟩
  · exact ⟨_,_,rfl⟩
theorem Bx.own_off {w:World} {B e:Nat} {v:Value} {fs:List Bx.Fl} (h:w.ownsRow B e 2 v fs.length (Bx.fCs fs)):Bx.Off w v fs:=by
  rcases h.2 with ⟨rfl,h0⟩ | ⟨g,cap,cur,rfl,hg,hgg,_⟩
  · exact ⟨none,0,by rw [h0],fun i hi=>by omega⟩
  · refine ⟨_,cap,rfl,fun i hi=>⟨g,0,rfl,(Array.getElem?_eq_some_iff.1 hgg).1, ?_, ?_⟩⟩
    · rw [Nat.zero_add,h.cellAt (i * 2) (by omega)];exact (Bx.fCs_at fs i hi).1
    · rw [Nat.zero_add,h.cellAt (i * 2+1) (by omega)];exact (Bx.fCs_at fs i hi).2
end Go.Proofs.YtkikhpppkpelfaaGreat
