import Derived.Test.YtkikhpppkpelfaaGreatKTk
import Derived.Test.YtkikhpppkpelfaaGreatKBoxG2
import Derived.Deep.RegionWith
import Derived.Test.YtkikhpppkpelfaaGreatKBoxD
set_option maxRecDepth 100000
set_option maxHeartbeats 2000000
namespace Go.Proofs.YtkikhpppkpelfaaGreat
open Go.RowKit Go.Maps Go.WideMaps
def Bx.lineL (s:ByteArray) (f:Bx.Fl):List UInt8:=if Lib.hasPrefix f.name.data.toList s.data.toList=true then f.name.data.toList++[10] else []
def Bx.listL (fs:List Bx.Fl) (s:ByteArray):List UInt8:=fs.flatMap (Bx.lineL s)
theorem Bx.listL_len (fs:List Bx.Fl) (s:ByteArray) (hx:∀ d ∈ fs,d.name.size≤1048576):(Bx.listL fs s).length≤fs.length * 1048577:=by
  induction fs with
  | nil=>simp [Bx.listL]
  | cons a r ih =>
    have h1:=ih (fun d hd=>hx d (List.mem_cons_of_mem _ hd))
    have h2:=hx a List.mem_cons_self
    have h3:(Bx.lineL s a).length≤1048577:=by
      unfold Bx.lineL;split
      · rw [List.length_append,Array.length_toList];simp only [List.length_singleton];exact Nat.succ_le_succ h2
      · simp
    unfold Bx.listL at h1 ⊢
    rw [List.flatMap_cons,List.length_append,List.length_cons];omega
theorem Bx.take_line (fs:List Bx.Fl) (s:ByteArray) (i:Nat) (hi:i < fs.length):Bx.listL (fs.take (i+1)) s=Bx.listL (fs.take i) s++Bx.lineL s fs[i]:=by
  unfold Bx.listL
  rw [List.take_add_one,List.getElem?_eq_getElem hi,List.flatMap_append];simp
theorem Bx.take_len (fs:List Bx.Fl) (s:ByteArray) (i:Nat) (hl:fs.length≤1000) (hx:∀ d ∈ fs,d.name.size≤1048576):(Bx.listL (fs.take i) s).length≤1048577000:=by
  have:=Bx.listL_len (fs.take i) s (fun d hd=>hx d (List.mem_of_mem_take hd))
  have h2:(fs.take i).length≤1000:=by rw [List.length_take];omega
  omega
theorem Bx.builder_new (T e:TypeId) (w:World):Lib.IsBuilderF T e w.heap.size w.heap.size (Lib.byteCells []) (w.alloc (.cells #[.pointer none,.slice none 0 0] T)):=Lib.IsBuilderF.of (Lib.fresh_isBuilder T e w)
theorem Bx.cells_app (l:List UInt8) (s:ByteArray):Lib.byteCells l++Lib.strCells s=Lib.byteCells (l++s.data.toList):=by
  simp [Lib.byteCells,Lib.strCells]
theorem Bx.cells_one (l:List UInt8):Lib.byteCells l++[.int .u8 10]=Lib.byteCells (l++[10]):=by
  simp [Lib.byteCells]
theorem Bx.list_any (B g:Nat) (fs:List Bx.Fl) (K:Nat) (s:ByteArray) (w:World) (hl:fs.length≤1000) (hx:∀ d ∈ fs,d.name.size≤1048576) (_hs:s.size≤1048576) (h:Bx.Holds w B g fs K) :
    Calls Tryz.prog 40 #[.pointer (some ⟨g,0,none⟩),.string s] w fun e w'=>e = .returned (.string ⟨(Bx.listL fs s).toArray⟩)∧Below w.heap.size w w':=by
  obtain ⟨mb,a0,n,cap,hn,h⟩:=h
  have hg:g < w.heap.size:=(Array.getElem?_eq_some_iff.1 h.blk).1
  have c1:w.cell? ⟨g,1,none⟩=some (.slice a0 n cap):=by simp [World.cell?,h.blk]
  have HN:Hid (fs.length=n):=hn
  rw [hn] at hl
  have HC:Hid (∀ i (hi:i < fs.length),∃ g2,a0=some ⟨g2,0,none⟩∧g2 < w.heap.size∧w.cell? ⟨g2,i,none⟩=some (.string fs[i].name)):=fun i hi=>by
    rcases h.row.2 with ⟨hv,h0⟩ | ⟨g2,c2,cur,hv,_,hg2,_⟩
    · omega
    · injection hv with e1 e2 e3
      subst e1 e3
      refine ⟨g2,rfl,(Array.getElem?_eq_some_iff.1 hg2).1, ?_⟩
      rw [h.row.cellAt i (by omega)]
      simp [Bi.ints,List.getElem?_eq_getElem hi]
  have HTL:Hid (∀ i,(Bx.listL (fs.take i) s).length≤1048577000):=fun i=>Bx.take_len fs s i (by omega) hx
  clear h hn
  go_enter Tryz.func40,Tryz.ntmps40
  go_wp2_with fail
  have hbn:=Bx.builder_new 84 5 w
  go_loopw [13] (fun t wr => ∃ i:Nat,i≤n∧t = .int .i64 (i:Int)∧Lib.IsBuilderF 84 5 w.heap.size w.heap.size (Lib.byteCells (Bx.listL (fs.take i) s)) wr∧Below w.heap.size w wr) (fun t _=>n - (intOf t).toNat)
  case atStart=>exact ⟨0,by omega,rfl,by simpa [Bx.listL] using hbn,(Below.refl _ w).alloc (Nat.le_refl _) _⟩
  case round =>
    obtain ⟨i,hi,rfl,hbu,hbw⟩:=hrel
    have hz:=hbw.size
    by_cases hlt:i < n
    · have hil:i < fs.length:=by rw [HN.out];exact hlt
      obtain ⟨g2,rfl,hg2,hcell⟩:=HC.out i hil
      have e0:wr.cell? ⟨g2,i,none⟩=some (.string fs[i].name):=by rw [hbw.cell (p:=⟨g2,i,none⟩) hg2,hcell]
      have hxd:=hx fs[i] (List.getElem_mem hil)
      have hTL:=HTL.out i
      have HTK:Hid (Bx.listL (fs.take (i+1)) s=Bx.listL (fs.take i) s++Bx.lineL s fs[i]):=Bx.take_line fs s i hil
      have HBU:Hid (Lib.IsBuilderF 84 5 w.heap.size w.heap.size (Lib.byteCells (Bx.listL (fs.take i) s)) wr):=hbu
      have HLN:Hid ((Lib.byteCells (Bx.listL (fs.take i) s)).length≤1048577000):=by rw [Hid,Lib.byteCells,List.length_map];exact hTL
      generalize fs[i]=d at *
      obtain ⟨bp,HP⟩:∃ bp,Hid (Lib.hasPrefix d.name.data.toList s.data.toList=bp):=⟨_,(rfl:Lib.hasPrefix d.name.data.toList s.data.toList=_)⟩
      clear hcell HC hbn hbu hTL HTL
      cases bp with
      | false =>
        have HF:Hid (Bx.listL (fs.take (i+1)) s=Bx.listL (fs.take i) s):=by rw [Hid,HTK.out,Bx.lineL,HP.out];simp
        go_wp2_with (go_at_call 51;refine (Tryz.strings_HasPrefix d.name s wr).mono ?_;rintro e w1 ⟨rfl,rfl⟩;rw [HP.out])
        go_roundw
        case rel=>exact ⟨i+1,by omega,by go_num,by rw [HF.out];exact HBU.out,hbw⟩
        case measure=>simp [intOf];omega
      | true =>
        have HF:Hid (Bx.listL (fs.take (i+1)) s=(Bx.listL (fs.take i) s++d.name.data.toList)++[10]):=by rw [Hid,HTK.out,Bx.lineL,HP.out];simp
        go_wp2_with (go_at_call 51;refine (Tryz.strings_HasPrefix d.name s wr).mono ?_;rintro e w1 ⟨rfl,rfl⟩;rw [HP.out])
        go_wp2_with (go_at_call 52;refine (Tryz.Builder_WriteString_k w.heap.size w.heap.size _ d.name _ HBU.out (by have:=HLN.out;omega) hz).mono ?_;rintro e w2 ⟨rfl,hb2,hbl2,_⟩;rw [Bx.cells_app] at hb2)
        go_wp2_with (go_at_call 53;refine (Tryz.Builder_WriteByte_k w.heap.size w.heap.size _ 10 _ (.inr hb2) (by have:=HLN.out;simp only [Lib.byteCells,List.length_map,List.length_append,Array.length_toList] at this ⊢;have h3:d.name.data.size≤1048576:=hxd;omega) (Nat.le_trans hz hbl2.size)).mono ?_;rintro e w3 ⟨rfl,hb3,hbl3,_⟩;rw [Bx.cells_one] at hb3)
        go_roundw
        case rel=>exact ⟨i+1,by omega,by go_num,by rw [HF.out];exact .inr hb3,(hbw.trans hbl2).trans hbl3⟩
        case measure=>simp [intOf];omega
    · have hie:i=n:=by omega
      subst hie
      have e:fs.take i=fs:=List.take_of_length_le (by rw [HN.out];omega)
      rw [e] at hbu
      have HBU:Hid (Lib.IsBuilderF 84 5 w.heap.size w.heap.size (Lib.byteCells (Bx.listL fs s)) wr):=hbu
      clear HC hbu hbn HTL e
      go_wp2_with (go_at_call 54;refine (Tryz.Builder_String_any_k w.heap.size w.heap.size _ _ HBU.out hz).mono ?_;rintro e w2 ⟨rfl,_,hbl2,_⟩)
      go_ret
      exact ⟨rfl,hbw.trans hbl2⟩
end Go.Proofs.YtkikhpppkpelfaaGreat
namespace Go.Proofs.YtkikhpppkpelfaaGreat
open Go.RowKit Go.Maps Go.WideMaps
def Bx.see (fs:List Bx.Fl) (k:Int) (x:ByteArray):Int × ByteArray :=
  if k=3 then (0,⟨(Bx.listL fs x).toArray⟩) else if k≠1∧k≠2 then (5,⟨#[]⟩) else
    match Bx.look fs x with
    | none=>(4,⟨#[]⟩)
    | some f=>if k=2 then (0,⟨#[]⟩) else (0,f.text)
theorem Bx.see_look {w:World} {B g:Nat} {fs:List Bx.Fl} {K:Nat} (h:Bx.Holds w B g fs K) (x:ByteArray) (hs:x.size≤1048576):∃ mb,(∀ o,(w.alloc o).cell? ⟨g,0,none⟩=some (.map (some mb)))∧∀ o,(Instr.lookup 52 (.map (some mb)) (.string x) true).run Tryz.prog (w.alloc o) = .ok (.tuple #[Bx.val (Bx.look fs x),.bool (Bx.look fs x).isSome]) (w.alloc o):=by
  obtain ⟨mb,a0,n,cap,hn,h⟩:=h
  refine ⟨mb,fun o => ?_,fun o => ?_⟩
  · have h2:=h.below ((Below.refl _ w).alloc (Nat.le_refl _) o);simp [World.cell?,h2.blk]
  · exact (h.below ((Below.refl _ w).alloc (Nat.le_refl _) o)).look hs
theorem Bx.reply_cells {w w2:World} {o:Obj} (hb:Below (w.heap.size+1+1) ((w.alloc (Obj.cells #[Value.int IntKind.i64 0,Value.string ⟨#[]⟩] 33)).alloc o) w2):w2.cell? ⟨w.heap.size,0,none⟩=some (.int .i64 0)∧w2.cell? ⟨w.heap.size,1,none⟩=some (.string ⟨#[]⟩)∧w2.frozen? ⟨w.heap.size,0,none⟩=false∧w2.frozen? ⟨w.heap.size,1,none⟩=false:=by
  have h0:=(((Below.refl _ (w.alloc (Obj.cells #[Value.int IntKind.i64 0,Value.string ⟨#[]⟩] 33))).alloc (Nat.le_refl _) o).block w.heap.size (by simp))
  have h1:=hb.block w.heap.size (by omega)
  rw [h0,(MapKept.heap_alloc w _).1] at h1
  exact ⟨by simp [World.cell?,h1],by simp [World.cell?,h1],by simp [World.frozen?,h1],by simp [World.frozen?,h1]⟩
theorem Bx.see_list_none (B g:Nat) (fs:List Bx.Fl) (K:Nat) (x:ByteArray) (w:World) (hs:x.size≤1048576) (h:Bx.Holds w B g fs K) (hl:fs.length≤1000) (hx:∀ d ∈ fs,d.name.size≤1048576) (hf:Bx.look fs x=none) :
    Calls Tryz.prog 28 #[.pointer (some ⟨g,0,none⟩),.int .i64 3,.string x] w fun e w'=>e = .returned (.agg #[.int .i64 0,.string ⟨(Bx.listL fs x).toArray⟩])∧Below w.heap.size w w':=by
  have HH:Hid (Bx.Holds w B g fs K):=h
  have hg:=h.lt.2
  obtain ⟨mb,hc,hlk⟩:=Bx.see_look h x hs
  have c0:=hc (Obj.cells #[Value.int IntKind.i64 0,Value.string ⟨#[]⟩] 33)
  have l0:=hlk (Obj.cells #[Value.int IntKind.i64 0,Value.string ⟨#[]⟩] 33)
  clear hc hlk h
  rw [hf] at l0
  simp only [Bx.val,Option.isSome] at l0
  have HX:Hid (∀ d ∈ fs,d.name.size≤1048576):=hx
  clear hf hx
  go_enter Tryz.func28,Tryz.ntmps28
  go_wp2_with (go_at_call 40;refine (Bx.list_any B g fs K x _ hl HX.out hs (HH.out.below (by repeat' (first | exact Below.refl _ _ | refine Below.alloc ?_ ?_ _ | exact Nat.le_refl _ | (simp;done))))).mono ?_;rintro e w2 ⟨rfl,hb2⟩;simp only [World.size_alloc] at hb2;have hbw:Below w.heap.size w w2:=(((Below.refl _ w).alloc (Nat.le_refl _) _).alloc (by simp) _).trans (hb2.mono (by omega));obtain ⟨r0,r1,r2,r3⟩:=Bx.reply_cells hb2)
  exact bodyPost_ret (v:=.agg #[.int .i64 0,.string ⟨(Bx.listL fs x).toArray⟩]) (by simp [results,Tryz.results28,go_sem,r0,r1]) rfl ⟨rfl,by repeat' (first | exact hbw | refine Below.setCell ?_ ?_ _ | exact Nat.le_refl _)⟩
theorem Bx.see_other_none (B g:Nat) (fs:List Bx.Fl) (K:Nat) (x:ByteArray) (w:World) (hs:x.size≤1048576) (h:Bx.Holds w B g fs K) (k:Int) (h3:k≠3) (h1:k≠1) (h2:k≠2) (hf:Bx.look fs x=none) :
    Calls Tryz.prog 28 #[.pointer (some ⟨g,0,none⟩),.int .i64 k,.string x] w fun e w'=>e = .returned (.agg #[.int .i64 5,.string ⟨#[]⟩])∧Below w.heap.size w w':=by
  have HH:Hid (Bx.Holds w B g fs K):=h
  have hg:=h.lt.2
  obtain ⟨mb,hc,hlk⟩:=Bx.see_look h x hs
  have c0:=hc (Obj.cells #[Value.int IntKind.i64 0,Value.string ⟨#[]⟩] 33)
  have l0:=hlk (Obj.cells #[Value.int IntKind.i64 0,Value.string ⟨#[]⟩] 33)
  clear hc hlk h
  rw [hf] at l0
  simp only [Bx.val,Option.isSome] at l0
  have b3:(k == 3)=false:=by simpa using h3
  have b1:(k != 1)=true:=by simpa using h1
  have b2:(k != 2)=true:=by simpa using h2
  clear hf HH
  go_enter Tryz.func28,Tryz.ntmps28
  go_wp2
  exact bodyPost_ret (v:=.agg #[.int .i64 5,.string ⟨#[]⟩]) (by simp [results,Tryz.results28,go_sem]) rfl ⟨rfl,by repeat' (first | exact Below.refl _ _ | refine Below.setCell ?_ ?_ _ | refine Below.alloc ?_ ?_ _ | exact Nat.le_refl _ | (simp;done) | (simp only [World.size_alloc];omega))⟩
theorem Bx.see_1_none (B g:Nat) (fs:List Bx.Fl) (K:Nat) (x:ByteArray) (w:World) (hs:x.size≤1048576) (h:Bx.Holds w B g fs K)  (hf:Bx.look fs x=none) :
    Calls Tryz.prog 28 #[.pointer (some ⟨g,0,none⟩),.int .i64 1,.string x] w fun e w'=>e = .returned (.agg #[.int .i64 4,.string ⟨#[]⟩])∧Below w.heap.size w w':=by
  have HH:Hid (Bx.Holds w B g fs K):=h
  have hg:=h.lt.2
  obtain ⟨mb,hc,hlk⟩:=Bx.see_look h x hs
  have c0:=hc (Obj.cells #[Value.int IntKind.i64 0,Value.string ⟨#[]⟩] 33)
  have l0:=hlk (Obj.cells #[Value.int IntKind.i64 0,Value.string ⟨#[]⟩] 33)
  clear hc hlk h
  rw [hf] at l0
  simp only [Bx.val,Option.isSome] at l0
  clear hf HH
  go_enter Tryz.func28,Tryz.ntmps28
  go_wp2
  exact bodyPost_ret (v:=.agg #[.int .i64 4,.string ⟨#[]⟩]) (by simp [results,Tryz.results28,go_sem]) rfl ⟨rfl,by repeat' (first | exact Below.refl _ _ | refine Below.setCell ?_ ?_ _ | refine Below.alloc ?_ ?_ _ | exact Nat.le_refl _ | (simp;done) | (simp only [World.size_alloc];omega))⟩
theorem Bx.see_2_none (B g:Nat) (fs:List Bx.Fl) (K:Nat) (x:ByteArray) (w:World) (hs:x.size≤1048576) (h:Bx.Holds w B g fs K)  (hf:Bx.look fs x=none) :
    Calls Tryz.prog 28 #[.pointer (some ⟨g,0,none⟩),.int .i64 2,.string x] w fun e w'=>e = .returned (.agg #[.int .i64 4,.string ⟨#[]⟩])∧Below w.heap.size w w':=by
  have HH:Hid (Bx.Holds w B g fs K):=h
  have hg:=h.lt.2
  obtain ⟨mb,hc,hlk⟩:=Bx.see_look h x hs
  have c0:=hc (Obj.cells #[Value.int IntKind.i64 0,Value.string ⟨#[]⟩] 33)
  have l0:=hlk (Obj.cells #[Value.int IntKind.i64 0,Value.string ⟨#[]⟩] 33)
  clear hc hlk h
  rw [hf] at l0
  simp only [Bx.val,Option.isSome] at l0
  clear hf HH
  go_enter Tryz.func28,Tryz.ntmps28
  go_wp2
  exact bodyPost_ret (v:=.agg #[.int .i64 4,.string ⟨#[]⟩]) (by simp [results,Tryz.results28,go_sem]) rfl ⟨rfl,by repeat' (first | exact Below.refl _ _ | refine Below.setCell ?_ ?_ _ | refine Below.alloc ?_ ?_ _ | exact Nat.le_refl _ | (simp;done) | (simp only [World.size_alloc];omega))⟩
theorem Bx.see_list_some (B g:Nat) (fs:List Bx.Fl) (K:Nat) (x:ByteArray) (w:World) (hs:x.size≤1048576) (h:Bx.Holds w B g fs K) (hl:fs.length≤1000) (hx:∀ d ∈ fs,d.name.size≤1048576) (f0:Bx.Fl) (hf:Bx.look fs x=some f0) :
    Calls Tryz.prog 28 #[.pointer (some ⟨g,0,none⟩),.int .i64 3,.string x] w fun e w'=>e = .returned (.agg #[.int .i64 0,.string ⟨(Bx.listL fs x).toArray⟩])∧Below w.heap.size w w':=by
  have HH:Hid (Bx.Holds w B g fs K):=h
  have hg:=h.lt.2
  obtain ⟨mb,hc,hlk⟩:=Bx.see_look h x hs
  have c0:=hc (Obj.cells #[Value.int IntKind.i64 0,Value.string ⟨#[]⟩] 33)
  have l0:=hlk (Obj.cells #[Value.int IntKind.i64 0,Value.string ⟨#[]⟩] 33)
  clear hc hlk h
  rw [hf] at l0
  simp only [Bx.val,Option.isSome] at l0
  have HX:Hid (∀ d ∈ fs,d.name.size≤1048576):=hx
  clear hf hx
  go_enter Tryz.func28,Tryz.ntmps28
  go_wp2_with (go_at_call 40;refine (Bx.list_any B g fs K x _ hl HX.out hs (HH.out.below (by repeat' (first | exact Below.refl _ _ | refine Below.alloc ?_ ?_ _ | exact Nat.le_refl _ | (simp;done))))).mono ?_;rintro e w2 ⟨rfl,hb2⟩;simp only [World.size_alloc] at hb2;have hbw:Below w.heap.size w w2:=(((Below.refl _ w).alloc (Nat.le_refl _) _).alloc (by simp) _).trans (hb2.mono (by omega));obtain ⟨r0,r1,r2,r3⟩:=Bx.reply_cells hb2)
  exact bodyPost_ret (v:=.agg #[.int .i64 0,.string ⟨(Bx.listL fs x).toArray⟩]) (by simp [results,Tryz.results28,go_sem,r0,r1]) rfl ⟨rfl,by repeat' (first | exact hbw | refine Below.setCell ?_ ?_ _ | exact Nat.le_refl _)⟩
theorem Bx.see_other_some (B g:Nat) (fs:List Bx.Fl) (K:Nat) (x:ByteArray) (w:World) (hs:x.size≤1048576) (h:Bx.Holds w B g fs K) (k:Int) (f0:Bx.Fl) (h3:k≠3) (h1:k≠1) (h2:k≠2) (hf:Bx.look fs x=some f0) :
    Calls Tryz.prog 28 #[.pointer (some ⟨g,0,none⟩),.int .i64 k,.string x] w fun e w'=>e = .returned (.agg #[.int .i64 5,.string ⟨#[]⟩])∧Below w.heap.size w w':=by
  have HH:Hid (Bx.Holds w B g fs K):=h
  have hg:=h.lt.2
  obtain ⟨mb,hc,hlk⟩:=Bx.see_look h x hs
  have c0:=hc (Obj.cells #[Value.int IntKind.i64 0,Value.string ⟨#[]⟩] 33)
  have l0:=hlk (Obj.cells #[Value.int IntKind.i64 0,Value.string ⟨#[]⟩] 33)
  clear hc hlk h
  rw [hf] at l0
  simp only [Bx.val,Option.isSome] at l0
  have b3:(k == 3)=false:=by simpa using h3
  have b1:(k != 1)=true:=by simpa using h1
  have b2:(k != 2)=true:=by simpa using h2
  clear hf HH
  go_enter Tryz.func28,Tryz.ntmps28
  go_wp2
  exact bodyPost_ret (v:=.agg #[.int .i64 5,.string ⟨#[]⟩]) (by simp [results,Tryz.results28,go_sem]) rfl ⟨rfl,by repeat' (first | exact Below.refl _ _ | refine Below.setCell ?_ ?_ _ | refine Below.alloc ?_ ?_ _ | exact Nat.le_refl _ | (simp;done) | (simp only [World.size_alloc];omega))⟩
theorem Bx.see_1_some (B g:Nat) (fs:List Bx.Fl) (K:Nat) (x:ByteArray) (w:World) (hs:x.size≤1048576) (h:Bx.Holds w B g fs K) (f0:Bx.Fl) (hf:Bx.look fs x=some f0) :
    Calls Tryz.prog 28 #[.pointer (some ⟨g,0,none⟩),.int .i64 1,.string x] w fun e w'=>e = .returned (.agg #[.int .i64 0,.string f0.text])∧Below w.heap.size w w':=by
  have HH:Hid (Bx.Holds w B g fs K):=h
  have hg:=h.lt.2
  obtain ⟨mb,hc,hlk⟩:=Bx.see_look h x hs
  have c0:=hc (Obj.cells #[Value.int IntKind.i64 0,Value.string ⟨#[]⟩] 33)
  have l0:=hlk (Obj.cells #[Value.int IntKind.i64 0,Value.string ⟨#[]⟩] 33)
  clear hc hlk h
  rw [hf] at l0
  simp only [Bx.val,Option.isSome] at l0
  clear hf HH
  go_enter Tryz.func28,Tryz.ntmps28
  go_wp2
  exact bodyPost_ret (v:=.agg #[.int .i64 0,.string f0.text]) (by simp [results,Tryz.results28,go_sem]) rfl ⟨rfl,by repeat' (first | exact Below.refl _ _ | refine Below.setCell ?_ ?_ _ | refine Below.alloc ?_ ?_ _ | exact Nat.le_refl _ | (simp;done) | (simp only [World.size_alloc];omega))⟩
theorem Bx.see_2_some (B g:Nat) (fs:List Bx.Fl) (K:Nat) (x:ByteArray) (w:World) (hs:x.size≤1048576) (h:Bx.Holds w B g fs K) (f0:Bx.Fl) (hf:Bx.look fs x=some f0) :
    Calls Tryz.prog 28 #[.pointer (some ⟨g,0,none⟩),.int .i64 2,.string x] w fun e w'=>e = .returned (.agg #[.int .i64 0,.string ⟨#[]⟩])∧Below w.heap.size w w':=by
  have HH:Hid (Bx.Holds w B g fs K):=h
  have hg:=h.lt.2
  obtain ⟨mb,hc,hlk⟩:=Bx.see_look h x hs
  have c0:=hc (Obj.cells #[Value.int IntKind.i64 0,Value.string ⟨#[]⟩] 33)
  have l0:=hlk (Obj.cells #[Value.int IntKind.i64 0,Value.string ⟨#[]⟩] 33)
  clear hc hlk h
  rw [hf] at l0
  simp only [Bx.val,Option.isSome] at l0
  clear hf HH
  go_enter Tryz.func28,Tryz.ntmps28
  go_wp2
  exact bodyPost_ret (v:=.agg #[.int .i64 0,.string ⟨#[]⟩]) (by simp [results,Tryz.results28,go_sem]) rfl ⟨rfl,by repeat' (first | exact Below.refl _ _ | refine Below.setCell ?_ ?_ _ | refine Below.alloc ?_ ?_ _ | exact Nat.le_refl _ | (simp;done) | (simp only [World.size_alloc];omega))⟩
theorem Bx.see_any (B g:Nat) (fs:List Bx.Fl) (K:Nat) (k:Int) (x:ByteArray) (w:World) (hl:fs.length≤1000) (hx:∀ d ∈ fs,d.name.size≤1048576) (hs:x.size≤1048576) (h:Bx.Holds w B g fs K) :
    Calls Tryz.prog 28 #[.pointer (some ⟨g,0,none⟩),.int .i64 k,.string x] w fun e w'=>e = .returned (.agg #[.int .i64 (Bx.see fs k x).1,.string (Bx.see fs k x).2])∧Below w.heap.size w w':=by
  unfold Bx.see
  by_cases h3:k=3
  · subst h3
    rw [if_pos rfl]
    cases hf:Bx.look fs x with
    | none=>exact Bx.see_list_none B g fs K x w hs h hl hx hf
    | some f0=>exact Bx.see_list_some B g fs K x w hs h hl hx f0 hf
  · rw [if_neg h3]
    by_cases h1:k=1
    · subst h1
      rw [if_neg (by simp)]
      cases hf:Bx.look fs x with
      | none=>exact Bx.see_1_none B g fs K x w hs h hf
      | some f0=>simp only;rw [if_neg (by decide)];exact Bx.see_1_some B g fs K x w hs h f0 hf
    · by_cases h2:k=2
      · subst h2
        rw [if_neg (by simp)]
        cases hf:Bx.look fs x with
        | none=>exact Bx.see_2_none B g fs K x w hs h hf
        | some f0=>simp only;rw [if_pos trivial];exact Bx.see_2_some B g fs K x w hs h f0 hf
      · rw [if_pos ⟨h1,h2⟩]
        cases hf:Bx.look fs x with
        | none=>exact Bx.see_other_none B g fs K x w hs h k h3 h1 h2 hf
        | some f0=>exact Bx.see_other_some B g fs K x w hs h k f0 h3 h1 h2 hf
end Go.Proofs.YtkikhpppkpelfaaGreat
namespace Go.Proofs.YtkikhpppkpelfaaGreat
open Go.RowKit Go.Maps Go.WideMaps
theorem Bx.clone_any (x:ByteArray) (w:World) (hx:x.size≤1048576000) :
    Calls Tryz.prog 39 #[.string x] w fun e w'=>e = .returned (.string x)∧Below w.heap.size w w':=by
  go_enter Tryz.func39,Tryz.ntmps39
  go_wp2_with (go_at_call 50;refine (Tryz.stringslite_Clone x _ (by omega)).mono ?_;rintro e w1 ⟨rfl,hb1⟩)
  go_ret
  exact ⟨rfl,hb1⟩
theorem Bx.copied_any (c:Int) (x:ByteArray) (w:World) (hx:x.size≤1048576000) :
    Calls Tryz.prog 27 #[.agg #[.int .i64 c,.string x]] w fun e w'=>e = .returned (.agg #[.int .i64 c,.string x])∧Below w.heap.size w w':=by
  have HQ:Hid (∀ w1,Below (w.heap.size+1+1) ((w.alloc (.cells #[.int .i64 c,.string x] 33)).alloc (.cells #[.int .i64 0,.string ⟨#[]⟩] 33)).drew w1→w1.cell? ⟨w.heap.size,0,none⟩=some (.int .i64 c)∧w1.cell? ⟨w.heap.size,1,none⟩=some (.string x)∧w1.cell? ⟨w.heap.size+1,0,none⟩=some (.int .i64 0)∧w1.cell? ⟨w.heap.size+1,1,none⟩=some (.string ⟨#[]⟩)∧w1.frozen? ⟨w.heap.size+1,0,none⟩=false∧w1.frozen? ⟨w.heap.size+1,1,none⟩=false∧Below w.heap.size w w1):=fun w1 h=>by
    have h0:w1.heap[w.heap.size]? = some (.cells #[.int .i64 c,.string x] 33):=by
      rw [h.block w.heap.size (by omega)]
      exact ((((Below.refl _ (w.alloc (.cells #[.int .i64 c,.string x] 33))).alloc (Nat.le_refl _) (.cells #[.int .i64 0,.string ⟨#[]⟩] 33)).block w.heap.size (by simp)).trans (MapKept.heap_alloc w _).1)
    have h1:w1.heap[w.heap.size+1]? = some (.cells #[.int .i64 0,.string ⟨#[]⟩] 33):=by
      rw [h.block (w.heap.size+1) (by omega)]
      have e:=(MapKept.heap_alloc (w.alloc (.cells #[.int .i64 c,.string x] 33)) (.cells #[.int .i64 0,.string ⟨#[]⟩] 33)).1
      rw [World.size_alloc] at e;exact e
    refine ⟨by simp [World.cell?,h0],by simp [World.cell?,h0],by simp [World.cell?,h1],by simp [World.cell?,h1],by simp [World.frozen?,h1],by simp [World.frozen?,h1], ?_⟩
    exact ((((Below.refl _ w).alloc (Nat.le_refl _) _).alloc (by simp) _).drew).trans (h.mono (by omega))
  have HQ2:Hid (∀ w1:World,w1.cell? ⟨w.heap.size,0,none⟩=some (.int .i64 c)→w1.cell? ⟨w.heap.size,1,none⟩=some (.string x)→((w1.setCell ⟨w.heap.size+1,0,none⟩ (.int .i64 c)).setCell ⟨w.heap.size+1,1,none⟩ (.string x)).cell? ⟨w.heap.size,0,none⟩=some (.int .i64 c)∧((w1.setCell ⟨w.heap.size+1,0,none⟩ (.int .i64 c)).setCell ⟨w.heap.size+1,1,none⟩ (.string x)).cell? ⟨w.heap.size,1,none⟩=some (.string x)):=fun w1 h0 h1 =>
    ⟨by rw [World.cell?_setCell_far _ _ _ _ (by simp),World.cell?_setCell_far _ _ _ _ (by simp)];exact h0,by rw [World.cell?_setCell_far _ _ _ _ (by simp),World.cell?_setCell_far _ _ _ _ (by simp)];exact h1⟩
  go_enter Tryz.func27,Tryz.ntmps27
  go_wp2_with fail
  refine wp_region_held_drew (S:=(fun W=>W.cell? ⟨w.heap.size,0,none⟩=some (.int .i64 c)∧W.cell? ⟨w.heap.size,1,none⟩=some (.string x))) (by kernel_rfl) (⟨by simp [go_sem],by simp [go_sem]⟩) (fun hHeld => ?_)
  refine Tk 0 (.pointer (some ⟨w.heap.size,0,none⟩)) rfl ?_
  try simp [Act.put]
  refine Tk 1 (.int .i64 c) rfl ?_
  try simp [Act.put]
  refine Tk 2 (.pointer (some ⟨w.heap.size,1,none⟩)) rfl ?_
  try simp [Act.put]
  refine Tk 3 (.string x) rfl ?_
  try simp [Act.put]
  refine wpAnyH_ready (rs:=[4]) (by kernel_rfl) (by simp) ?_
  refine AllReadyH.cons rfl (fun KK hK => ?_) AllReadyH.nil
  go_simp
  (go_at_call 39;refine (Bx.clone_any x _ hx).mono ?_;rintro e w1 ⟨rfl,hb1⟩;obtain ⟨q0,q1,r0,r1,r2,r3,hbw⟩:=HQ.out w1 (hb1.mono (by show _≤((w.alloc _).alloc _).heap.size;simp only [World.size_alloc];omega)))
  go_wp2
  refine hK.out _ _ (⟨q0,q1⟩) (fun hHeld => ?_)
  clear hK
  try simp [Act.put]
  refine Tk 5 (.agg #[.int .i64 c,.string x]) rfl ?_
  try simp [Act.put]
  refine wpAnyH_ready (rs:=[6]) (by kernel_rfl) (by simp) ?_
  refine AllReadyH.cons rfl (fun KK hK => ?_) AllReadyH.nil
  go_simp
  refine hK.out _ _ (HQ2.out w1 q0 q1) (fun hHeld => ?_)
  clear hK
  try simp [Act.put]
  refine wpAnyH_done (by kernel_rfl) ?_ _
  go_wp2
  exact bodyPost_ret (v:=.agg #[.int .i64 c,.string x]) (by simp [results,Tryz.results27,go_sem,r0,r1]) rfl ⟨rfl,by repeat' (first | exact hbw | refine Below.setCell ?_ ?_ _ | (simp;done) | exact Nat.le_succ _)⟩
end Go.Proofs.YtkikhpppkpelfaaGreat
namespace Go.Proofs.YtkikhpppkpelfaaGreat
open Go.RowKit Go.Maps Go.WideMaps
def Bx.seeP (fs:List Bx.Fl) (k:Int) (x:ByteArray):Int × ByteArray:=if Bx.ok fs 40=true then Bx.see fs k x else (5,⟨#[]⟩)
theorem Bx.look_in {fs:List Bx.Fl} {x:ByteArray} {f:Bx.Fl} (h:Bx.look fs x=some f):f ∈ fs:=by
  unfold Bx.look at h;exact List.mem_of_find?_eq_some h
theorem Bx.see_size {fs:List Bx.Fl} (k:Int) (x:ByteArray) (hl:fs.length≤900) (hx:∀ d ∈ fs,d.name.size≤1048576∧d.text.size≤1048576):(Bx.see fs k x).2.size≤1048576000:=by
  unfold Bx.see
  split
  · have:=Bx.listL_len fs x (fun d hd=>(hx d hd).1)
    show (Bx.listL fs x).toArray.size≤_
    rw [List.size_toArray];omega
  · split
    · exact Nat.zero_le _
    · split
      · exact Nat.zero_le _
      · rename_i f hf
        split
        · exact Nat.zero_le _
        · have:=(hx f (Bx.look_in hf)).2;simp only;omega
theorem Bx.reply_cells2 {w w2:World} {o:Obj} (hb:Below (w.heap.size+1+1) ((w.alloc o).alloc (.cells #[.int .i64 0,.string ⟨#[]⟩] 33)) w2):w2.cell? ⟨w.heap.size+1,0,none⟩=some (.int .i64 0)∧w2.cell? ⟨w.heap.size+1,1,none⟩=some (.string ⟨#[]⟩)∧w2.frozen? ⟨w.heap.size+1,0,none⟩=false∧w2.frozen? ⟨w.heap.size+1,1,none⟩=false:=by
  have h0:=(MapKept.heap_alloc (w.alloc o) (.cells #[.int .i64 0,.string ⟨#[]⟩] 33)).1
  rw [World.size_alloc] at h0
  have h1:=(hb.block (w.heap.size+1) (by omega)).trans h0
  exact ⟨by simp [World.cell?,h1],by simp [World.cell?,h1],by simp [World.frozen?,h1],by simp [World.frozen?,h1]⟩
theorem Bx.place_cell {w w2:World} {v:Value} {o:Obj} {t:TypeId} (hb:Below (w.heap.size+1+1) ((w.alloc (.cells #[v] t)).alloc o) w2):w2.cell? ⟨w.heap.size,0,none⟩=some v:=by
  have h0:=(((Below.refl _ (w.alloc (.cells #[v] t))).alloc (Nat.le_refl _) o).block w.heap.size (by simp))
  have h1:=hb.block w.heap.size (by omega)
  rw [h0,(MapKept.heap_alloc w _).1] at h1
  simp [World.cell?,h1]
theorem Bx.implSee_any (fs:List Bx.Fl) (v:Value) (k:Int) (x:ByteArray) (w:World) (hn:fs.length≤1048576) (hx:∀ d ∈ fs,d.name.size≤1048576∧d.text.size≤1048576) (hs:x.size≤1048576) (hN:Bx.Off w v fs) :
    Calls Tryz.prog 9 #[.agg #[v],.int .i64 k,.string x] w fun e w'=>e = .returned (.agg #[.int .i64 (Bx.seeP fs k x).1,.string (Bx.seeP fs k x).2])∧Below w.heap.size w w':=by
  have HV:Hid (∀ b w1,Bx.ok fs 40=b→Bx.Off w1 v fs→Calls Tryz.prog 8 #[.agg #[v]] w1 fun e w'=>e = .returned (.bool b)∧Below w1.heap.size w1 w'):=fun b w1 hb h=>by
    have:=Bx.implPlace_any fs v w1 hn hx h
    rw [hb] at this;exact this
  have HN:Hid (∀ W,Below w.heap.size w W→Bx.Off W v fs):=fun W hW=>hN.below hW
  obtain ⟨p,cap,rfl⟩:=hN.slice
  have hal:∀ o1 o2:Obj,Below w.heap.size w ((w.alloc o1).alloc o2):=fun o1 o2=>((Below.refl _ w).alloc (Nat.le_refl _) o1).alloc (by simp) o2
  cases hok:Bx.ok fs 40 with
  | false =>
    have HR:Hid (Bx.seeP fs k x=(5,⟨#[]⟩)):=by rw [Hid,Bx.seeP,hok];rfl
    have HVV:Hid (∀ w1,Bx.Off w1 (.slice p fs.length cap) fs→Calls Tryz.prog 8 #[.agg #[.slice p fs.length cap]] w1 fun e w'=>e = .returned (.bool false)∧Below w1.heap.size w1 w'):=fun w1 h=>HV.out false w1 hok h
    rw [HR.out]
    clear HV hok hx hn hN HR
    revert HVV HN
    generalize fs.length=n
    intro HN HVV
    go_enter Tryz.func9,Tryz.ntmps9
    go_wp2_with (go_at_call 8;refine (HVV.out _ (HN.out _ (hal _ _))).mono ?_;rintro e w2 ⟨rfl,hb2⟩;simp only [World.size_alloc] at hb2;have hb3:Below w.heap.size w w2:=(hal _ _).trans (hb2.mono (by omega));obtain ⟨r0,r1,r2,r3⟩:=Bx.reply_cells2 hb2)
    exact bodyPost_ret (v:=.agg #[.int .i64 5,.string ⟨#[]⟩]) (by simp [results,Tryz.results9,go_sem,r0,r1]) rfl ⟨rfl,by repeat' (first | exact hb3 | refine Below.setCell ?_ ?_ _ | exact Nat.le_succ _)⟩
  | true =>
    have hu:=Bx.ok_up hok
    have hl:=Bx.ok_len hok
    have HR:Hid (Bx.seeP fs k x=Bx.see fs k x):=by rw [Hid,Bx.seeP,hok];rfl
    have HVV:Hid (∀ w1,Bx.Off w1 (.slice p fs.length cap) fs→Calls Tryz.prog 8 #[.agg #[.slice p fs.length cap]] w1 fun e w'=>e = .returned (.bool true)∧Below w1.heap.size w1 w'):=fun w1 h=>HV.out true w1 hok h
    have HBO:Hid (∀ w1,Bx.Off w1 (.slice p fs.length cap) fs→Calls Tryz.prog 20 #[.agg #[.slice p fs.length cap]] w1 fun e w' => ∃ g,e = .returned (.pointer (some ⟨g,0,none⟩))∧Bx.Holds w' w1.heap.size g fs fs.length∧Below w1.heap.size w1 w'):=fun w1 h=>Bx.boxOf_any fs hu _ w1 (by omega) (fun d hd=>(hx d hd).1) h
    have HSE:Hid (∀ B g K w1,Bx.Holds w1 B g fs K→Calls Tryz.prog 28 #[.pointer (some ⟨g,0,none⟩),.int .i64 k,.string x] w1 fun e w'=>e = .returned (.agg #[.int .i64 (Bx.see fs k x).1,.string (Bx.see fs k x).2])∧Below w1.heap.size w1 w'):=fun B g K w1 h=>Bx.see_any B g fs K k x w1 (by omega) (fun d hd=>(hx d hd).1) hs h
    have hz:=Bx.see_size k x (by omega) hx
    rw [HR.out]
    generalize Bx.see fs k x=r at *
    obtain ⟨rc,rt⟩:=r
    simp only at *
    clear HV hok hx hn hN HR hl hu
    revert HVV HN HBO
    generalize fs.length=n
    intro HN HVV HBO
    go_enter Tryz.func9,Tryz.ntmps9
    go_wp2_with (first
      | (go_at_call 8;refine (HVV.out _ (HN.out _ (hal _ _))).mono ?_;rintro e w2 ⟨rfl,hb2⟩;simp only [World.size_alloc] at hb2;have hb3:Below w.heap.size w w2:=(hal _ _).trans (hb2.mono (by omega));have p0:=Bx.place_cell hb2)
      | (go_at_call 20;refine (HBO.out w2 (HN.out w2 hb3)).mono ?_;rintro e w3 ⟨g,rfl,hH3,hbw3⟩;have hb4:Below (w.heap.size+1+1) _ w3:=hb2.trans (hbw3.mono (by have:=hb2.size;simp only [World.size_alloc] at this;omega)))
      | (go_at_call 28;refine (HSE.out _ _ _ _ hH3).mono ?_;rintro e w4 ⟨rfl,hbw4⟩;have hb5:Below (w.heap.size+1+1) _ w4:=hb4.trans (hbw4.mono (by have:=hb4.size;simp only [World.size_alloc] at this;omega)))
      | (go_at_call 27;refine (Bx.copied_any rc rt _ hz).mono ?_;rintro e w5 ⟨rfl,hbw5⟩;have hb6:Below (w.heap.size+1+1) _ w5:=hb5.trans (hbw5.mono (by have:=hb5.size;simp only [World.size_alloc] at this;omega));have hb7:Below w.heap.size w w5:=(hal _ _).trans (hb6.mono (by omega));obtain ⟨r0,r1,r2,r3⟩:=Bx.reply_cells2 hb6))
    exact bodyPost_ret (v:=.agg #[.int .i64 rc,.string rt]) (by simp [results,Tryz.results9,go_sem,r0,r1]) rfl ⟨rfl,by repeat' (first | exact hb7 | refine Below.setCell ?_ ?_ _ | exact Nat.le_succ _)⟩
end Go.Proofs.YtkikhpppkpelfaaGreat
