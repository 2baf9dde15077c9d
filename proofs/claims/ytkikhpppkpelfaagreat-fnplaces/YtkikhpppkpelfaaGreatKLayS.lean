import Derived.Test.YtkikhpppkpelfaaGreatKTk
import Derived.Shelf.Spec.SlicesGrow
import Derived.Test.YtkikhpppkpelfaaGreatRows
import Derived.Test.YtkikhpppkpelfaaGreatKLayB
import Derived.Test.YtkikhpppkpelfaaGreatKBoxJ
set_option maxRecDepth 100000
set_option maxHeartbeats 2000000
namespace Go.Proofs
open Go.Shelf
def Tryz.laysG_ren : Go.Shelf.Ren := ⟨fun | 4 => 49 | n => n, fun | 0 => 0 | 3 => 3 | 4 => 4 | 9 => 9 | 20 => 20 | 22 => 23 | 25 => 36 | n => n, fun | n => n⟩
theorem Tryz.laysG : Go.Proofs.Lays8.n4 Tryz.prog Tryz.laysG_ren := {
  mixed := by kernel_rfl
  f4 := ⟨Tryz.f49.name, by kernel_rfl, Tryz.func49.trans (congrArg some (by kernel_rfl))⟩
  t0 := Tryz.underlying0
  a0 := Tryz.isAgg0
  z0 := Tryz.sizeOf0
  v0 := Tryz.zeroValue0
  t3 := Tryz.underlying3
  a3 := Tryz.isAgg3
  z3 := Tryz.sizeOf3
  v3 := Tryz.zeroValue3
  t4 := Tryz.underlying4
  a4 := Tryz.isAgg4
  z4 := Tryz.sizeOf4
  v4 := Tryz.zeroValue4
  t9 := Tryz.underlying9
  a9 := Tryz.isAgg9
  z9 := Tryz.sizeOf9
  v9 := Tryz.zeroValue9
  t20 := Tryz.underlying20
  a20 := Tryz.isAgg20
  z20 := Tryz.sizeOf20
  v20 := Tryz.zeroValue20
  t22 := Tryz.underlying23
  a22 := Tryz.isAgg23
  z22 := Tryz.sizeOf23
  v22 := Tryz.zeroValue23 }
end Go.Proofs
namespace Go.Proofs.YtkikhpppkpelfaaGreat
open Go.RowKit Go.Maps Go.WideMaps
theorem Bx.copiedFile_any (a b:ByteArray) (w:World) (ha:a.size≤1048576) (hb:b.size≤1048576) :
    Calls Tryz.prog 36 #[.agg #[.string a,.string b]] w fun e w'=>e = .returned (.agg #[.string a,.string b])∧Below w.heap.size w w':=by
  have HQ:Hid (∀ w1,Below (w.heap.size+1+1) ((w.alloc (.cells #[.string a,.string b] 36)).alloc (.cells #[.string ⟨#[]⟩,.string ⟨#[]⟩] 36)) w1→w1.cell? ⟨w.heap.size,0,none⟩=some (.string a)∧w1.cell? ⟨w.heap.size,1,none⟩=some (.string b)∧w1.cell? ⟨w.heap.size+1,0,none⟩=some (.string ⟨#[]⟩)∧w1.cell? ⟨w.heap.size+1,1,none⟩=some (.string ⟨#[]⟩)∧w1.frozen? ⟨w.heap.size+1,0,none⟩=false∧w1.frozen? ⟨w.heap.size+1,1,none⟩=false∧Below w.heap.size w w1):=fun w1 h=>by
    have h0:w1.heap[w.heap.size]? = some (.cells #[.string a,.string b] 36):=by
      rw [h.block w.heap.size (by omega)]
      exact ((((Below.refl _ (w.alloc (.cells #[.string a,.string b] 36))).alloc (Nat.le_refl _) (.cells #[.string ⟨#[]⟩,.string ⟨#[]⟩] 36)).block w.heap.size (by simp)).trans (MapKept.heap_alloc w _).1)
    have h1:w1.heap[w.heap.size+1]? = some (.cells #[.string ⟨#[]⟩,.string ⟨#[]⟩] 36):=by
      rw [h.block (w.heap.size+1) (by omega)]
      have e:=(MapKept.heap_alloc (w.alloc (.cells #[.string a,.string b] 36)) (.cells #[.string ⟨#[]⟩,.string ⟨#[]⟩] 36)).1
      rw [World.size_alloc] at e;exact e
    refine ⟨by simp [World.cell?,h0],by simp [World.cell?,h0],by simp [World.cell?,h1],by simp [World.cell?,h1],by simp [World.frozen?,h1],by simp [World.frozen?,h1], ?_⟩
    exact (((Below.refl _ w).alloc (Nat.le_refl _) _).alloc (by simp) _).trans (h.mono (by omega))
  have HQ2:Hid (∀ w1:World,Below (w.heap.size+1+1) ((w.alloc (.cells #[.string a,.string b] 36)).alloc (.cells #[.string ⟨#[]⟩,.string ⟨#[]⟩] 36)) w1→w1.cell? ⟨w.heap.size,0,none⟩=some (.string a)→w1.cell? ⟨w.heap.size,1,none⟩=some (.string b)→((w1.setCell ⟨w.heap.size+1,0,none⟩ (.string a)).setCell ⟨w.heap.size+1,1,none⟩ (.string b)).cell? ⟨w.heap.size,0,none⟩=some (.string a)∧((w1.setCell ⟨w.heap.size+1,0,none⟩ (.string a)).setCell ⟨w.heap.size+1,1,none⟩ (.string b)).cell? ⟨w.heap.size,1,none⟩=some (.string b)):=fun w1 _ h0 h1 =>
    ⟨by rw [World.cell?_setCell_far _ _ _ _ (by simp),World.cell?_setCell_far _ _ _ _ (by simp)];exact h0,by rw [World.cell?_setCell_far _ _ _ _ (by simp),World.cell?_setCell_far _ _ _ _ (by simp)];exact h1⟩
  go_enter Tryz.func36,Tryz.ntmps36
  go_wp2_with fail
  refine wp_region_held_drew (S:=(fun W=>W.cell? ⟨w.heap.size,0,none⟩=some (.string a)∧W.cell? ⟨w.heap.size,1,none⟩=some (.string b))) (by kernel_rfl) (⟨(HQ.out _ (Below.refl _ _).drew).1,(HQ.out _ (Below.refl _ _).drew).2.1⟩) (fun hHeld => ?_)
  refine Tk 0 (.pointer (some ⟨w.heap.size,0,none⟩)) rfl ?_
  try simp [Act.put]
  refine Tk 1 (.string a) rfl ?_
  try simp [Act.put]
  refine Tk 3 (.pointer (some ⟨w.heap.size,1,none⟩)) rfl ?_
  try simp [Act.put]
  refine Tk 4 (.string b) rfl ?_
  try simp [Act.put]
  refine wpAnyH_ready (rs:=[2]) (by kernel_rfl) (by simp) ?_
  refine AllReadyH.cons rfl (fun KK hK => ?_) AllReadyH.nil
  go_simp
  (go_at_call 39;refine (Bx.clone_any a _ (by omega)).mono ?_;rintro e w1 ⟨rfl,hb1⟩;have hc1:Below (w.heap.size+1+1) ((w.alloc (.cells #[.string a,.string b] 36)).alloc (.cells #[.string ⟨#[]⟩,.string ⟨#[]⟩] 36)) w1:=(Below.refl (w.heap.size+1+1) ((w.alloc (.cells #[.string a,.string b] 36)).alloc (.cells #[.string ⟨#[]⟩,.string ⟨#[]⟩] 36))).drew.trans (hb1.mono (by simp));obtain ⟨q0,q1,r0,r1,r2,r3,hbw⟩:=HQ.out w1 hc1)
  go_wp2
  refine hK.out _ _ (⟨q0,q1⟩) (fun hHeld => ?_)
  clear hK
  try simp [Act.put]
  refine wpAnyH_ready (rs:=[5]) (by kernel_rfl) (by simp) ?_
  refine AllReadyH.cons rfl (fun KK hK => ?_) AllReadyH.nil
  go_simp
  (go_at_call 39;refine (Bx.clone_any b _ (by omega)).mono ?_;rintro e w2 ⟨rfl,hb2⟩;have hc2:Below (w.heap.size+1+1) ((w.alloc (.cells #[.string a,.string b] 36)).alloc (.cells #[.string ⟨#[]⟩,.string ⟨#[]⟩] 36)) w2:=hc1.trans (hb2.mono (by have:=hc1.size;simpa using this));obtain ⟨q0,q1,r0,r1,r2,r3,hbw⟩:=HQ.out w2 hc2)
  go_wp2
  refine hK.out _ _ (⟨q0,q1⟩) (fun hHeld => ?_)
  clear hK
  try simp [Act.put]
  refine Tk 6 (.agg #[.string a,.string b]) rfl ?_
  try simp [Act.put]
  refine wpAnyH_ready (rs:=[7]) (by kernel_rfl) (by simp) ?_
  refine AllReadyH.cons rfl (fun KK hK => ?_) AllReadyH.nil
  go_simp
  refine hK.out _ _ (HQ2.out w2 hc2 q0 q1) (fun hHeld => ?_)
  clear hK
  try simp [Act.put]
  refine wpAnyH_done (by kernel_rfl) ?_ _
  go_wp2
  exact bodyPost_ret (v:=.agg #[.string a,.string b]) (by simp [results,Tryz.results36,go_sem,r0,r1]) rfl ⟨rfl,(hbw.setCell (p:=⟨w.heap.size+1,0,none⟩) (by simp only;omega) _).setCell (p:=⟨w.heap.size+1,1,none⟩) (by simp only;omega) _⟩
theorem Bx.BoxAt.lookF {w:World} {B g:Nat} {fs:List Bx.Fl} {ns:List ByteArray} {mb K:Nat} {a:Option Addr} {n cap:Nat} (h:Bx.BoxAt w B g fs ns mb K a n cap) {x:ByteArray} (hx:x.size≤1048576) :
    (Instr.lookup 52 (.map (some mb)) (.string x) false).run Tryz.prog w = .ok (Bx.val (Bx.look fs x)) w:=by
  obtain ⟨D,ho,hr⟩:=h.map
  obtain ⟨v,ps,hrun,hv⟩:=ho.lookup Tryz.lawStr Tryz.underlying52 (Tryz.zeroFile w) (Bx.elem_mk _ _) (keyOf_string_mk Tryz.underlying9 (s:=x) (by unfold maxLen;omega))
  rw [hr.2] at hv
  rw [hrun]
  cases hl:Bx.look fs x with
  | none=>rw [hl] at hv;rw [Bx.elem_inv hv];rfl
  | some f=>rw [hl] at hv;rw [Bx.elem_inv hv];rfl
theorem Bx.placeClos_any (fs:List Bx.Fl) (B g K cb:Nat) (x:ByteArray) (f:Bx.Fl) (w:World) (hx:x.size≤1048576) (hn:f.name.size≤1048576) (ht:f.text.size≤1048576) (hf:Bx.look fs x=some f) (hH:Bx.Holds w B g fs K) (hc:w.cell? ⟨cb,0,none⟩=some (.pointer (some ⟨g,0,none⟩))) (hcb:cb < w.heap.size) :
    Calls Tryz.prog 35 #[.string x,.pointer (some ⟨cb,0,none⟩)] w fun e w'=>e = .returned (.agg #[.string f.name,.string f.text])∧Below w.heap.size w w':=by
  obtain ⟨mb,a,n,cap,hl,hB⟩:=hH
  have hB2:=hB.below ((Below.refl _ w).alloc (Nat.le_refl _) (.cells #[.string ⟨#[]⟩,.string ⟨#[]⟩] 36))
  have hg:g < w.heap.size:=(Array.getElem?_eq_some_iff.1 hB.blk).1
  have c0:(w.alloc (.cells #[.string ⟨#[]⟩,.string ⟨#[]⟩] 36)).cell? ⟨g,0,none⟩=some (.map (some mb)):=by simp [World.cell?,hB2.blk]
  have hrun:=hB2.lookF (x:=x) hx
  rw [hf] at hrun
  simp only [Bx.val] at hrun
  have hc2:(w.alloc (.cells #[.string ⟨#[]⟩,.string ⟨#[]⟩] 36)).cell? ⟨cb,0,none⟩=some (.pointer (some ⟨g,0,none⟩)):=by rw [((Below.refl _ w).alloc (Nat.le_refl _) _).cell (p:=⟨cb,0,none⟩) hcb];exact hc
  clear hB hB2 hf
  go_enter Tryz.func35,Tryz.ntmps35
  go_wp2_with (go_at_call 36;refine (Bx.copiedFile_any f.name f.text _ hn ht).mono ?_;rintro e w1 ⟨rfl,hb1⟩;simp only [World.size_alloc] at hb1;have hbw:Below w.heap.size w w1:=((Below.refl _ w).alloc (Nat.le_refl _) _).trans (hb1.mono (by omega));have h0:=(hb1.block w.heap.size (by omega)).trans (MapKept.heap_alloc w _).1;have r0:w1.cell? ⟨w.heap.size,0,none⟩=some (.string ⟨#[]⟩):=(by simp [World.cell?,h0]);have r1:w1.cell? ⟨w.heap.size,1,none⟩=some (.string ⟨#[]⟩):=(by simp [World.cell?,h0]);have r2:w1.frozen? ⟨w.heap.size,0,none⟩=false:=(by simp [World.frozen?,h0]);have r3:w1.frozen? ⟨w.heap.size,1,none⟩=false:=(by simp [World.frozen?,h0]);clear h0)
  exact bodyPost_ret (v:=.agg #[.string f.name,.string f.text]) (by simp [results,Tryz.results35,go_sem,r0,r1]) rfl ⟨rfl,(hbw.setCell (p:=⟨w.heap.size,0,none⟩) (Nat.le_refl _) _).setCell (p:=⟨w.heap.size,1,none⟩) (Nat.le_refl _) _⟩
theorem Bx.grow_any (n:Nat) (w:World) (hn:n≤1000) :
    Calls Tryz.prog 49 #[.slice none 0 0,.int .i64 (n:Int)] w fun e w' => ∃ a c,e = .returned (.slice a 0 c)∧w'.ownsRow w.heap.size 36 2 (.slice a 0 c) 0 (Bx.fCs [])∧Below w.heap.size w w':=by
  by_cases h0:n=0
  · subst h0
    refine (Any8.slices_Grow_room Tryz.laysG none 0 0 0 w (by omega) (by omega) (by omega) (by omega)).mono ?_
    rintro e w' ⟨rfl,rfl⟩
    exact ⟨none,0,rfl,⟨rfl,.inl ⟨rfl,rfl⟩⟩,Below.refl _ _⟩
  · obtain ⟨i0,hi0,hz0,hz1,hz2⟩:=info_parts Tryz.infoFile
    refine (Any8.slices_Grow_grow Tryz.laysG i0 _ hi0 hz0 (by omega) none 0 0 n [] w (by omega) (by omega) (by rw [hz2];omega) (by omega) (by simp) (fun _=>rfl) (fun a ha=>by cases ha)).mono ?_
    rintro e w' ⟨rfl,rfl⟩
    obtain ⟨gc,hgc⟩:∃ gc,grownCap w (0+n) 0 36=gc:=⟨_,rfl⟩
    have hge:0+n≤gc:=by rw [← hgc];exact grownCap_ge _ _ _ _
    have hle:gc≤maxLen:=by rw [← hgc];exact grownCap_le_maxLen _ _ _ _ (by unfold maxLen;omega)
    refine ⟨some ⟨w.heap.size,0,none⟩,gc,by rw [← hgc];rfl,⟨rfl,.inr ⟨w.heap.size,gc,_,rfl,Nat.le_refl _,(MapKept.heap_alloc w.drew _).1,Nat.zero_le _,hle, ?_,by simp [Bx.fCs]⟩⟩,(Below.refl _ w).drew.alloc (Nat.le_refl _) _⟩
    have hz3:(Value.agg #[.string ByteArray.empty,.string ByteArray.empty]).cells.size=2:=rfl
    have e1:grownCap w (0+n) 0 (Tryz.laysG_ren.t 25)=gc:=hgc
    rw [Array.size_append,Array.size_append,size_zeroCells,size_zeroCells,hz3,e1]
    simp;omega
end Go.Proofs.YtkikhpppkpelfaaGreat
namespace Go.Proofs.YtkikhpppkpelfaaGreat
open Go.RowKit Go.Maps Go.WideMaps
theorem Bx.look_self {fs:List Bx.Fl} (h:Bx.Up fs) (i:Nat) (hi:i < fs.length):Bx.look fs fs[i].name=some fs[i]:=by
  induction fs generalizing i with
  | nil=>simp at hi
  | cons a r ih =>
    rw [Bx.look_cons]
    cases i with
    | zero=>simp
    | succ k =>
      have hk:k < r.length:=by simpa using hi
      have hne:a.name≠r[k].name:=Bx.lt_ne (h.1 _ (List.getElem_mem hk))
      rw [if_neg (by simpa using hne)]
      exact ih h.2 k hk
theorem Bx.copied_files (fs:List Bx.Fl) (hu:Bx.Up fs) (B g K cb:Nat) (w:World) (hl:fs.length≤1000) (hx:∀ d ∈ fs,d.name.size≤1048576∧d.text.size≤1048576) (mb:Nat) (a0:Option Addr) (n cap:Nat) (hn:fs.length=n) (hB:Bx.BoxAt w B g fs (fs.map Bx.Fl.name) mb K a0 n cap) (hc:w.cell? ⟨cb,0,none⟩=some (.pointer (some ⟨g,0,none⟩))) (hcb:cb < w.heap.size) :
    Calls Tryz.prog 34 #[.slice a0 n cap,.func (Fn.func 35) #[] #[.pointer (some ⟨cb,0,none⟩)]] w fun e w' => ∃ a c,e = .returned (.slice a n c)∧w'.ownsRow w.heap.size 36 2 (.slice a n c) n (Bx.fCs fs)∧Below w.heap.size w w':=by
  obtain ⟨i0,hi0,hz0,hz1,hz2⟩:=info_parts Tryz.infoFile
  have HN:Hid (fs.length=n):=hn
  rw [hn] at hl
  have HC:Hid (∀ i (hi:i < fs.length),∃ g2,a0=some ⟨g2,0,none⟩∧g2 < w.heap.size∧w.cell? ⟨g2,i,none⟩=some (.string fs[i].name)):=fun i hi=>by
    rcases hB.row.2 with ⟨hv,h0⟩ | ⟨g2,c2,cur,hv,_,hg2,_⟩
    · omega
    · injection hv with e1 e2 e3
      subst e1 e3
      refine ⟨g2,rfl,(Array.getElem?_eq_some_iff.1 hg2).1, ?_⟩
      rw [hB.row.cellAt i (by omega)]
      simp [Bi.ints,List.getElem?_eq_getElem hi]
  have HCL:Hid (∀ W i (hi:i < fs.length),Below w.heap.size w W→Calls Tryz.prog 35 #[.string fs[i].name,.pointer (some ⟨cb,0,none⟩)] W fun e w'=>e = .returned (.agg #[.string fs[i].name,.string fs[i].text])∧Below W.heap.size W w'):=fun W i hi hW=>Bx.placeClos_any fs B g K cb fs[i].name fs[i] W (hx _ (List.getElem_mem hi)).1 (hx _ (List.getElem_mem hi)).1 (hx _ (List.getElem_mem hi)).2 (Bx.look_self hu i hi) (Bx.Holds.below (w:=w) (K:=K) ⟨mb,a0,n,cap,hn,hB⟩ hW) (by rw [hW.cell (p:=⟨cb,0,none⟩) hcb];exact hc) (Nat.lt_of_lt_of_le hcb hW.size)
  clear hB hc hx hn hu
  go_enter Tryz.func34,Tryz.ntmps34
  go_wp2_with (go_at_call 49;refine (Bx.grow_any n _ hl).mono ?_;rintro e w1 ⟨ga,gc,rfl,hown1,hb1⟩)
  go_loopw [5,13] (fun t5 t13 wr => ∃ (i:Nat) (a:Option Addr) (c:Nat),i≤n∧t5 = .slice a i c∧t13 = .int .i64 (i:Int)∧wr.ownsRow w.heap.size 36 2 (.slice a i c) i (Bx.fCs (fs.take i))∧Below w.heap.size w wr) (fun _ t13 _=>n - (intOf t13).toNat)
  case atStart=>exact ⟨0,ga,gc,by omega,rfl,rfl,hown1,hb1⟩
  case round =>
    obtain ⟨i,a,c,hi,rfl,rfl,hown,hbw⟩:=hrel
    have HO:Hid (wr.ownsRow w.heap.size 36 2 (.slice a i c) i (Bx.fCs (fs.take i))):=hown
    have hz:=hbw.size
    clear hown hown1 hb1
    by_cases hlt:i < n
    · have hil:i < fs.length:=by rw [HN.out];exact hlt
      obtain ⟨g2,rfl,hg2,k0⟩:=HC.out i hil
      have e0:wr.cell? ⟨g2,i,none⟩=some (.string fs[i].name):=by rw [hbw.cell (p:=⟨g2,i,none⟩) hg2,k0]
      have HCC:Hid (Calls Tryz.prog 35 #[.string fs[i].name,.pointer (some ⟨cb,0,none⟩)] wr fun e w'=>e = .returned (.agg #[.string fs[i].name,.string fs[i].text])∧Below wr.heap.size wr w'):=HCL.out wr i hil hbw
      have HTK:Hid (Bx.fCs (fs.take i)++[.string fs[i].name,.string fs[i].text]=Bx.fCs (fs.take (i+1))):=by rw [Hid,Bx.take_next fs i hil];exact Bx.fCs_one _ _
      clear k0 HC HCL
      generalize fs[i]=d at *
      go_wp2_with (first
        | (go_at_call 35;refine HCC.out.mono ?_;rintro e w2 ⟨rfl,hb2⟩;have hbw2:Below w.heap.size w w2:=hbw.trans (hb2.mono hz);have hzw2:=hbw2.size)
        | (at_builtin;refine wpList_append_own _ rfl _ _ 23 rfl w.heap.size 36 i0 (.agg #[.string ByteArray.empty,.string ByteArray.empty]) 2 32 Tryz.underlying23 hi0 hz0 hz1 hz2 rfl (by decide) _ _ _ rfl ((Bx.own_below HO.out hb2).alloc _) ⟨w2.heap.size,0,none⟩ 1 1 [.string d.name,.string d.text] rfl rfl (Bx.file_new _ _ _) (Bx.one_file _ _) (by unfold maxLen;omega) (by omega) (by simp;omega) ?_;intro v3 w3 hown3 hg3 _;rw [HTK.out] at hown3;obtain ⟨a3,c3,hv3⟩:=Bx.rowLen hown3;subst hv3;have hb3:Below w.heap.size w w3:=(hbw2.alloc hzw2 _).grown hg3 (by simp;omega) (Bx.row_block HO.out)))
      go_roundw
      case rel=>exact ⟨i+1,a3,c3,by omega,rfl,by go_num,hown3,hb3⟩
      case measure=>simp [intOf];omega
    · have hie:i=n:=by omega
      subst hie
      have HT:Hid (wr.ownsRow w.heap.size 36 2 (.slice a i c) i (Bx.fCs fs)):=by
        have e:fs.take i=fs:=List.take_of_length_le (by rw [HN.out];omega)
        have h:=HO.out
        rw [e] at h;exact h
      clear HC HCL
      go_wp2
      go_ret
      exact ⟨_,_,rfl,HT.out,hbw⟩
theorem Bx.place_any (fs:List Bx.Fl) (hu:Bx.Up fs) (B g K:Nat) (w:World) (hl:fs.length≤1000) (hx:∀ d ∈ fs,d.name.size≤1048576∧d.text.size≤1048576) (hH:Bx.Holds w B g fs K) :
    Calls Tryz.prog 22 #[.pointer (some ⟨g,0,none⟩)] w fun e w' => ∃ a c,e = .returned (.agg #[.slice a fs.length c])∧w'.ownsRow w.heap.size 36 2 (.slice a fs.length c) fs.length (Bx.fCs fs)∧Below w.heap.size w w':=by
  obtain ⟨mb,a0,n,cap,hn,hB⟩:=hH
  have hg:g < w.heap.size:=(Array.getElem?_eq_some_iff.1 hB.blk).1
  have hal:∀ o1 o2:Obj,Below w.heap.size w ((w.alloc o1).alloc o2):=fun o1 o2=>((Below.refl _ w).alloc (Nat.le_refl _) o1).alloc (by simp) o2
  have HB:Hid (∀ o1 o2:Obj,Bx.BoxAt ((w.alloc o1).alloc o2) B g fs (fs.map Bx.Fl.name) mb K a0 n cap):=fun o1 o2=>hB.below (hal o1 o2)
  have HCO:Hid (∀ cb W,Bx.BoxAt W B g fs (fs.map Bx.Fl.name) mb K a0 n cap→W.cell? ⟨cb,0,none⟩=some (.pointer (some ⟨g,0,none⟩))→cb < W.heap.size→Calls Tryz.prog 34 #[.slice a0 n cap,.func (Fn.func 35) #[] #[.pointer (some ⟨cb,0,none⟩)]] W fun e w' => ∃ a c,e = .returned (.slice a n c)∧w'.ownsRow W.heap.size 36 2 (.slice a n c) n (Bx.fCs fs)∧Below W.heap.size W w'):=fun cb W h1 h2 h3=>Bx.copied_files fs hu B g K cb W hl hx mb a0 n cap hn h1 h2 h3
  have c1:∀ o1 o2:Obj,((w.alloc o1).alloc o2).cell? ⟨g,1,none⟩=some (.slice a0 n cap):=fun o1 o2=>by simp [World.cell?,(HB.out o1 o2).blk]
  have d1:=c1 (.cells #[.pointer (some ⟨g,0,none⟩)] 49) (.cells #[.slice none 0 0] 25)
  simp only [hn]
  clear hB hx hn c1 hu
  go_enter Tryz.func22,Tryz.ntmps22
  go_wp2_with (go_at_call 34;refine (HCO.out _ _ (HB.out _ _) (by simp [go_sem]) (by simp only [World.size_alloc];omega)).mono ?_;rintro e w1 ⟨a1,c1,rfl,hown1,hb1⟩;simp only [World.size_alloc] at hb1 hown1;obtain ⟨r0,r1⟩:=Bx.res_cell hb1;have hbw:Below w.heap.size w w1:=(hal _ _).trans (hb1.mono (by omega)))
  refine bodyPost_ret (v:=.agg #[.slice a1 n c1]) (by simp [results,Tryz.results22,go_sem,r0]) rfl ⟨a1,c1,rfl, ?_, ?_⟩
  · exact Bx.own_mono (ownsRow_setCell_below hown1 (a:=⟨w.heap.size+1,0,none⟩) (by simp only;omega) _) (by omega)
  · exact hbw.setCell (p:=⟨w.heap.size+1,0,none⟩) (by simp only;omega) _
end Go.Proofs.YtkikhpppkpelfaaGreat
namespace Go.Proofs.YtkikhpppkpelfaaGreat
open Go.RowKit Go.Maps Go.WideMaps
theorem Bx.isNoFile_any (a b:ByteArray) (ha:a.size≤1048576) (hb:b.size≤1048576) (w:World) :
    Calls Tryz.prog 19 #[.agg #[.string a,.string b]] w fun e w'=>e = .returned (.bool (!Bx.good ⟨a,b⟩))∧Below w.heap.size w w':=by
  have HI:Hid (∀ W,Calls Tryz.prog 31 #[.agg #[.string a,.string b]] W fun e w'=>e = .returned (.bool (Bx.good ⟨a,b⟩))∧Below W.heap.size W w'):=fun W=>Bx.isFile_any a b ha hb W
  generalize Bx.good ⟨a,b⟩=g at *
  go_enter Tryz.func19,Tryz.ntmps19
  go_wp2_with (go_at_call 31;refine (HI.out _).mono ?_;rintro e w1 ⟨rfl,hb1⟩;simp only [World.size_alloc] at hb1)
  go_ret
  exact ⟨rfl,((Below.refl _ w).alloc (Nat.le_refl _) _).trans (hb1.mono (by omega))⟩
theorem Bx.noIdx_any (ss:List Bx.Fl) (u:Value) (w:World) (hm:ss.length≤1048576) (hy:∀ d ∈ ss,d.name.size≤1048576∧d.text.size≤1048576) (hS:Bx.Off w u ss) :
    Calls Tryz.prog 30 #[u,.func (Fn.func 19) #[] #[]] w fun e w' => ∃ r,e = .returned (.int .i64 r)∧(decide (0≤r) = !ss.all Bx.good)∧Below w.heap.size w w':=by
  obtain ⟨p2,cap2,rfl,hc0⟩:=hS
  have HC:Hid (∀ i (hi:i < ss.length),∃ g o,p2=some ⟨g,o,none⟩∧g < w.heap.size∧w.cell? ⟨g,o+i * 2,none⟩=some (.string ss[i].name)∧w.cell? ⟨g,o+i * 2+1,none⟩=some (.string ss[i].text)):=hc0
  clear hc0
  have HCL:Hid (∀ W (d:Bx.Fl),d ∈ ss→Calls Tryz.prog 19 #[.agg #[.string d.name,.string d.text]] W fun e w'=>e = .returned (.bool (!Bx.good d))∧Below W.heap.size W w'):=fun W d hd=>Bx.isNoFile_any d.name d.text (hy d hd).1 (hy d hd).2 W
  obtain ⟨r,HRA⟩:∃ r,Hid (ss.all Bx.good=r):=⟨_,(rfl:ss.all Bx.good=_)⟩
  rw [HRA.out]
  obtain ⟨m,HM⟩:∃ m,Hid (ss.length=m):=⟨_,(rfl:ss.length=_)⟩
  rw [HM.out] at hm
  simp only [HM.out]
  go_enter Tryz.func30,Tryz.ntmps30
  go_wp2_with fail
  go_loopw [8] (fun t wr => ∃ i:Nat,i≤m∧t = .int .i64 (i:Int)∧(∀ j (hj:j < ss.length),j < i→Bx.good ss[j]=true)∧Below w.heap.size w wr) (fun t _=>m - (intOf t).toNat)
  case atStart=>exact ⟨0,by omega,rfl,fun j _ hj=>by omega,Below.refl _ _⟩
  case round =>
    obtain ⟨i,hi,rfl,hno,hbw⟩:=hrel
    have HNO:Hid (∀ j (hj:j < ss.length),j < i→Bx.good ss[j]=true):=hno
    clear hno
    have hz:=hbw.size
    by_cases hlt:i < m
    · have hltI:(i:Int) < (m:Int):=by omega
      have hil:i < ss.length:=by rw [HM.out];exact hlt
      obtain ⟨g2,o2,rfl,hg2,k0,k1⟩:=HC.out i hil
      have e0:wr.cell? ⟨g2,o2+i * 2,none⟩=some (.string ss[i].name):=by rw [hbw.cell (p:=⟨g2,o2+i * 2,none⟩) hg2,k0]
      have e1:wr.cell? ⟨g2,o2+i * 2+1,none⟩=some (.string ss[i].text):=by rw [hbw.cell (p:=⟨g2,o2+i * 2+1,none⟩) hg2,k1]
      have HCC:=HCL.out wr ss[i] (List.getElem_mem hil)
      cases hb:Bx.good ss[i] with
      | false =>
        have HRR:Hid (r=false):=by rw [Hid,← HRA.out,List.all_eq_false];exact ⟨ss[i],List.getElem_mem hil,by simp [hb]⟩
        rw [hb] at HCC
        have HCD:Hid (Calls Tryz.prog 19 #[.agg #[.string ss[i].name,.string ss[i].text]] wr fun e w'=>e = .returned (.bool true)∧Below wr.heap.size wr w'):=HCC
        clear HCC hb k0 k1 HC HCL HNO
        generalize ss[i]=d at *
        go_wp2_with (first | (go_at_call 19;refine HCD.out.mono ?_;rintro e w7 ⟨rfl,hb7⟩))
        go_ret
        exact ⟨_,rfl,by rw [HRR.out];simp,hbw.trans (hb7.mono hz)⟩
      | true =>
        have HYY:Hid (∀ j (hj:j < ss.length),j < i+1→Bx.good ss[j]=true):=fun j hj hji=>by
          by_cases e:j=i
          · subst e;exact hb
          · exact HNO.out j hj (by omega)
        rw [hb] at HCC
        have HCD:Hid (Calls Tryz.prog 19 #[.agg #[.string ss[i].name,.string ss[i].text]] wr fun e w'=>e = .returned (.bool false)∧Below wr.heap.size wr w'):=HCC
        clear HCC hb k0 k1 HC HCL HNO
        generalize ss[i]=d at *
        go_wp2_with (first | (go_at_call 19;refine HCD.out.mono ?_;rintro e w7 ⟨rfl,hb7⟩))
        go_roundw
        case rel=>exact ⟨i+1,by omega,by go_num,HYY.out,hbw.trans (hb7.mono hz)⟩
        case measure=>simp [intOf];omega
    · have hltI:¬ (i:Int) < (m:Int):=by omega
      have HRR:Hid (r=true):=by
        rw [Hid,← HRA.out,List.all_eq_true];intro f hf
        obtain ⟨j,hj,rfl⟩:=List.getElem_of_mem hf
        exact HNO.out j hj (by have:=HM.out;omega)
      clear HC HCL HNO
      go_wp2_with fail
      go_ret
      exact ⟨_,rfl,by rw [HRR.out];simp,hbw⟩
theorem Bx.noCont_any (ss:List Bx.Fl) (u:Value) (w:World) (hm:ss.length≤1048576) (hy:∀ d ∈ ss,d.name.size≤1048576∧d.text.size≤1048576) (hS:Bx.Off w u ss) :
    Calls Tryz.prog 18 #[u,.func (Fn.func 19) #[] #[]] w fun e w'=>e = .returned (.bool (!ss.all Bx.good))∧Below w.heap.size w w':=by
  have HI:Hid (Calls Tryz.prog 30 #[u,.func (Fn.func 19) #[] #[]] w fun e w' => ∃ r,e = .returned (.int .i64 r)∧(decide (0≤r) = !ss.all Bx.good)∧Below w.heap.size w w'):=Bx.noIdx_any ss u w hm hy hS
  obtain ⟨p2,cap2,rfl⟩:=hS.slice
  clear hS hy
  generalize (!ss.all Bx.good)=bb at *
  generalize ss.length=m at *
  go_enter Tryz.func18,Tryz.ntmps18
  go_wp2_with (go_at_call 30;refine HI.out.mono ?_;rintro e w1 ⟨r,rfl,hr,hb1⟩;have HR:Hid (decide (0≤r)=bb):=hr;clear hr)
  go_ret
  exact ⟨Jb.ret_bool HR.out,hb1⟩
end Go.Proofs.YtkikhpppkpelfaaGreat
namespace Go.Proofs.YtkikhpppkpelfaaGreat
open Go.RowKit Go.Maps Go.WideMaps
theorem Bx.lays_mem {fs ss:List Bx.Fl} {d:Bx.Fl} (h:d ∈ Bx.lays fs ss):d ∈ fs∨d ∈ ss:=by
  unfold Bx.lays at h
  induction ss generalizing fs with
  | nil=>exact .inl h
  | cons a r ih =>
    rcases ih h with h | h
    · rcases Bx.put_mem h with rfl | h
      · exact .inr List.mem_cons_self
      · exact .inl h
    · exact .inr (List.mem_cons_of_mem _ h)
theorem Bx.implLay_any (fs ss:List Bx.Fl) (v u:Value) (w:World) (hn:fs.length≤1048576) (hx:∀ d ∈ fs,d.name.size≤1048576∧d.text.size≤1048576) (hm:ss.length≤1048576) (hy:∀ d ∈ ss,d.name.size≤1048576∧d.text.size≤1048576) (hN:Bx.Off w v fs) (hS:Bx.Off w u ss) :
    Calls Tryz.prog 5 #[.agg #[v],u] w (Bx.LayPost (Bx.lay fs ss).1 (Bx.lay fs ss).2 w):=by
  have HV:Hid (∀ b w1,Bx.ok fs 40=b→Bx.Off w1 v fs→Calls Tryz.prog 8 #[.agg #[v]] w1 fun e w'=>e = .returned (.bool b)∧Below w1.heap.size w1 w'):=fun b w1 hb h=>by
    have:=Bx.implPlace_any fs v w1 hn hx h
    rw [hb] at this;exact this
  have HN:Hid (∀ W,Below w.heap.size w W→Bx.Off W v fs):=fun W hW=>hN.below hW
  have HSS:Hid (∀ W,Below w.heap.size w W→Bx.Off W u ss):=fun W hW=>hS.below hW
  have HCF0:Hid (∀ W,Bx.Off W u ss→Calls Tryz.prog 18 #[u,.func (Fn.func 19) #[] #[]] W fun e w'=>e = .returned (.bool (!ss.all Bx.good))∧Below W.heap.size W w'):=fun W h=>Bx.noCont_any ss u W hm hy h
  obtain ⟨p,cap,rfl⟩:=hN.slice
  obtain ⟨p2,cap2,rfl,hc⟩:=hS
  have HC:Hid (∀ i (hi:i < ss.length),∃ g o,p2=some ⟨g,o,none⟩∧g < w.heap.size∧w.cell? ⟨g,o+i * 2,none⟩=some (.string ss[i].name)∧w.cell? ⟨g,o+i * 2+1,none⟩=some (.string ss[i].text)):=hc
  clear hc
  have hal:∀ o1 o2:Obj,Below w.heap.size w ((w.alloc o1).alloc o2):=fun o1 o2=>((Below.refl _ w).alloc (Nat.le_refl _) o1).alloc (by simp) o2
  cases hok:Bx.ok fs 40 with
  | false =>
    have HR:Hid (Bx.lay fs ss=([],1)):=by rw [Hid,Bx.lay,if_pos (.inl hok)]
    have HVV:Hid (∀ w1,Bx.Off w1 (.slice p fs.length cap) fs→Calls Tryz.prog 8 #[.agg #[.slice p fs.length cap]] w1 fun e w'=>e = .returned (.bool false)∧Below w1.heap.size w1 w'):=fun w1 h=>HV.out false w1 hok h
    rw [HR.out]
    clear HV hok hx hn hN HR HC HCF0 HSS
    generalize ss.length=m at *
    revert HVV HN
    generalize fs.length=n
    intro HN HVV
    go_enter Tryz.func5,Tryz.ntmps5
    go_wp2_with (go_at_call 8;refine (HVV.out _ (HN.out _ (hal _ _))).mono ?_;rintro e w2 ⟨rfl,hb2⟩;simp only [World.size_alloc] at hb2;have p0:=Bx.place_cell0 hb2;have hbw2:Below w.heap.size w w2:=(hal _ _).trans (hb2.mono (by omega));have hz2w:w.heap.size+1+1≤w2.heap.size:=(by have:=hb2.size;simpa using this);obtain ⟨r0,r1⟩:=Bx.res_cell hb2)
    exact bodyPost_ret (v:=.tuple #[.agg #[.slice none 0 0],.int .i64 1]) (by simp [results,Tryz.results5,go_sem,r0]) rfl (Bx.LayPost.none (hbw2.setCell (p:=⟨w.heap.size+1,0,none⟩) (by simp only;omega) _))
  | true =>
    have hu:=Bx.ok_up hok
    have hl:=Bx.ok_len hok
    have HVV:Hid (∀ w1,Bx.Off w1 (.slice p fs.length cap) fs→Calls Tryz.prog 8 #[.agg #[.slice p fs.length cap]] w1 fun e w'=>e = .returned (.bool true)∧Below w1.heap.size w1 w'):=fun w1 h=>HV.out true w1 hok h
    have HBO:Hid (∀ w1,Bx.Off w1 (.slice p fs.length cap) fs→Calls Tryz.prog 20 #[.agg #[.slice p fs.length cap]] w1 fun e w' => ∃ g,e = .returned (.pointer (some ⟨g,0,none⟩))∧Bx.Holds w' w1.heap.size g fs fs.length∧Below w1.heap.size w1 w'):=fun w1 h=>Bx.boxOf_any fs hu _ w1 (by omega) (fun d hd=>(hx d hd).1) h
    have HZX:Hid (∀ i,∀ d ∈ Bx.lays fs (ss.take i),d.name.size≤1048576∧d.text.size≤1048576):=fun i d hd=>by
      rcases Bx.lays_mem hd with h | h
      · exact hx d h
      · exact hy d (List.mem_of_mem_take h)
    obtain ⟨m,HM⟩:∃ m,Hid (ss.length=m):=⟨_,(rfl:ss.length=_)⟩
    obtain ⟨n,HNN⟩:∃ n,Hid (fs.length=n):=⟨_,(rfl:fs.length=_)⟩
    rw [HM.out] at hm
    rw [HNN.out] at hl
    simp only [HM.out] at HSS HCF0 ⊢
    simp only [HNN.out] at HVV HN HBO ⊢
    clear HV
    by_cases hmm:40 < m
    · have HR:Hid (Bx.lay fs ss=([],1)):=by rw [Hid,Bx.lay,if_pos (.inr (.inl (by rw [HM.out];exact hmm)))]
      rw [HR.out]
      clear hx hN HR HC hok HCF0 HBO
      have hmm2:decide ((40:Int) < (m:Int))=true:=by simp;omega
      go_enter Tryz.func5,Tryz.ntmps5
      go_wp2_with (go_at_call 8;refine (HVV.out _ (HN.out _ (hal _ _))).mono ?_;rintro e w2 ⟨rfl,hb2⟩;simp only [World.size_alloc] at hb2;have p0:=Bx.place_cell0 hb2;have hbw2:Below w.heap.size w w2:=(hal _ _).trans (hb2.mono (by omega));have hz2w:w.heap.size+1+1≤w2.heap.size:=(by have:=hb2.size;simpa using this);obtain ⟨r0,r1⟩:=Bx.res_cell hb2)
      exact bodyPost_ret (v:=.tuple #[.agg #[.slice none 0 0],.int .i64 1]) (by simp [results,Tryz.results5,go_sem,r0]) rfl (Bx.LayPost.none (hbw2.setCell (p:=⟨w.heap.size+1,0,none⟩) (by simp only;omega) _))
    · have hmm2:decide ((40:Int) < (m:Int))=false:=by simp;omega
      cases hag:ss.all Bx.good with
      | false =>
        have HR:Hid (Bx.lay fs ss=([],1)):=by rw [Hid,Bx.lay,if_pos (.inr (.inr hag))]
        rw [HR.out]
        rw [hag] at HCF0
        have HCF:Hid (∀ W,Bx.Off W (.slice p2 m cap2) ss→Calls Tryz.prog 18 #[.slice p2 m cap2,.func (Fn.func 19) #[] #[]] W fun e w'=>e = .returned (.bool true)∧Below W.heap.size W w'):=HCF0
        clear hx hN HR HC hok HCF0 HBO hag
        go_enter Tryz.func5,Tryz.ntmps5
        go_wp2_with (first | (go_at_call 8;refine (HVV.out _ (HN.out _ (hal _ _))).mono ?_;rintro e w2 ⟨rfl,hb2⟩;simp only [World.size_alloc] at hb2;have p0:=Bx.place_cell0 hb2;have hbw2:Below w.heap.size w w2:=(hal _ _).trans (hb2.mono (by omega));have hz2w:w.heap.size+1+1≤w2.heap.size:=(by have:=hb2.size;simpa using this);obtain ⟨r0,r1⟩:=Bx.res_cell hb2) | (go_at_call 18;refine (HCF.out w2 (HSS.out w2 hbw2)).mono ?_;rintro e w3 ⟨rfl,hb3⟩;have hbc:Below (w.heap.size+1+1) _ w3:=hb2.trans (hb3.mono hz2w);have hbw3:Below w.heap.size w w3:=hbw2.trans (hb3.mono hbw2.size);obtain ⟨r2,r3⟩:=Bx.res_cell hbc;have p1:=Bx.place_cell0 hbc;have hz3w:w.heap.size+1+1≤w3.heap.size:=(by have:=hbc.size;simpa using this);clear r0 r1 p0))
        exact bodyPost_ret (v:=.tuple #[.agg #[.slice none 0 0],.int .i64 1]) (by simp [results,Tryz.results5,go_sem,r2]) rfl (Bx.LayPost.none (hbw3.setCell (p:=⟨w.heap.size+1,0,none⟩) (by simp only;omega) _))
      | true =>
        rw [hag] at HCF0
        have HCF:Hid (∀ W,Bx.Off W (.slice p2 m cap2) ss→Calls Tryz.prog 18 #[.slice p2 m cap2,.func (Fn.func 19) #[] #[]] W fun e w'=>e = .returned (.bool false)∧Below W.heap.size W w'):=HCF0
        have HNO:Hid (¬ (Bx.ok fs 40=false∨40 < ss.length∨ss.all Bx.good=false)):=by
          rw [Hid,hok,hag,HM.out];simp;omega
        have HU:Hid (Bx.Up fs):=hu
        have HY:Hid (∀ d ∈ ss,d.name.size≤1048576∧d.text.size≤1048576):=hy
        clear hx hN hok HCF0 hag hu hy
        go_enter Tryz.func5,Tryz.ntmps5
        go_wp2_with (first | (go_at_call 8;refine (HVV.out _ (HN.out _ (hal _ _))).mono ?_;rintro e w2 ⟨rfl,hb2⟩;simp only [World.size_alloc] at hb2;have p0:=Bx.place_cell0 hb2;have hbw2:Below w.heap.size w w2:=(hal _ _).trans (hb2.mono (by omega));have hz2w:w.heap.size+1+1≤w2.heap.size:=(by have:=hb2.size;simpa using this);obtain ⟨r0,r1⟩:=Bx.res_cell hb2) | (go_at_call 18;refine (HCF.out w2 (HSS.out w2 hbw2)).mono ?_;rintro e w3 ⟨rfl,hb3⟩;have hbc:Below (w.heap.size+1+1) _ w3:=hb2.trans (hb3.mono hz2w);have hbw3:Below w.heap.size w w3:=hbw2.trans (hb3.mono hbw2.size);obtain ⟨r2,r3⟩:=Bx.res_cell hbc;have p1:=Bx.place_cell0 hbc;have hz3w:w.heap.size+1+1≤w3.heap.size:=(by have:=hbc.size;simpa using this);clear r0 r1 p0) | (go_at_call 20;refine (HBO.out w3 (HN.out w3 hbw3)).mono ?_;rintro e w4 ⟨g,rfl,hH4,hb4⟩;have hbd:Below (w.heap.size+1+1) _ w4:=hbc.trans (hb4.mono hz3w)))
        have hH4':Bx.Holds w4 (w.heap.size+1+1) g (Bx.lays fs (ss.take 0)) (n+0):=by
          obtain ⟨mb,a,k,cp,h1,h2⟩:=hH4
          exact ⟨mb,a,k,cp,h1,h2.blk,Nat.le_trans hz3w h2.le,Nat.le_trans hz3w h2.lem,h2.map,Bx.own_mono h2.row hz3w⟩
        go_loopw [26] (fun t wr => ∃ i:Nat,i≤m∧t = .int .i64 (i:Int)∧Bx.Holds wr (w.heap.size+1+1) g (Bx.lays fs (ss.take i)) (n+i)∧Below (w.heap.size+1+1) ((w.alloc (.cells #[.slice p n cap] 25)).alloc (.cells #[.slice none 0 0] 25)) wr) (fun t _=>m - (intOf t).toNat)
        case atStart=>exact ⟨0,by omega,rfl,hH4',hbd⟩
        case round =>
          obtain ⟨i,hi,rfl,hH,hbr⟩:=hrel
          have HH:Hid (Bx.Holds wr (w.heap.size+1+1) g (Bx.lays fs (ss.take i)) (n+i)):=hH
          clear hH hH4' hH4
          have hbw:Below w.heap.size w wr:=(hal _ _).trans (hbr.mono (by omega))
          have hzr:w.heap.size+1+1≤wr.heap.size:=by have:=hbr.size;simpa using this
          have hll:(Bx.lays fs (ss.take i)).length≤80:=by
            have h1:=Bx.lays_len fs (ss.take i)
            rw [HNN.out,List.length_take] at h1;omega
          by_cases hlt:i < m
          · have hil:i < ss.length:=by rw [HM.out];exact hlt
            obtain ⟨g2,o2,rfl,hg2,k0,k1⟩:=HC.out i hil
            have e0:wr.cell? ⟨g2,o2+i * 2,none⟩=some (.string ss[i].name):=by rw [hbw.cell (p:=⟨g2,o2+i * 2,none⟩) hg2,k0]
            have e1:wr.cell? ⟨g2,o2+i * 2+1,none⟩=some (.string ss[i].text):=by rw [hbw.cell (p:=⟨g2,o2+i * 2+1,none⟩) hg2,k1]
            have HST:Hid (∀ o:Obj,Calls Tryz.prog 21 #[.pointer (some ⟨g,0,none⟩),.agg #[.string ss[i].name,.string ss[i].text]] (wr.alloc o) fun e w'=>e = .returned (.tuple #[])∧Bx.Holds w' (w.heap.size+1+1) g (Bx.lays fs (ss.take (i+1))) (n+(i+1))∧Below (w.heap.size+1+1) (wr.alloc o) w'):=fun o=>by
              have:=Bx.set_holds (w.heap.size+1+1) g (Bx.lays fs (ss.take i)) (Bx.lays_up HU.out _) (n+i) ss[i].name ss[i].text (wr.alloc o) (by simp;omega) (by omega) (by omega) (HY.out _ (List.getElem_mem hil)).1 (HH.out.below ((Below.refl _ wr).alloc (Nat.le_refl _) o))
              rw [show (⟨ss[i].name,ss[i].text⟩:Bx.Fl)=ss[i] from rfl,← Bx.lays_next fs ss i hil] at this
              exact this
            clear k0 k1 HC
            generalize ss[i]=d at *
            go_wp2_with (go_at_call 21;refine (HST.out _).mono ?_;rintro e w6 ⟨rfl,hH6,hb6⟩)
            go_roundw
            case rel=>exact ⟨i+1,by omega,by go_num,hH6,(hbr.alloc hzr _).trans hb6⟩
            case measure=>simp [intOf];omega
          · have hie:i=m:=by omega
            subst hie
            have ht:ss.take i=ss:=List.take_of_length_le (by rw [HM.out];omega)
            rw [ht] at HH hll
            have HZ:=HZX.out i
            rw [ht] at HZ
            have HPL:Hid (Calls Tryz.prog 22 #[.pointer (some ⟨g,0,none⟩)] wr fun e w' => ∃ a c,e = .returned (.agg #[.slice a (Bx.lays fs ss).length c])∧w'.ownsRow wr.heap.size 36 2 (.slice a (Bx.lays fs ss).length c) (Bx.lays fs ss).length (Bx.fCs (Bx.lays fs ss))∧Below wr.heap.size wr w'):=Bx.place_any (Bx.lays fs ss) (Bx.lays_up HU.out _) _ g _ wr (by omega) HZ HH.out
            obtain ⟨mb,a7,om,cp7,hom,hbx⟩:=HH.out
            have c1:wr.cell? ⟨g,1,none⟩=some (.slice a7 om cp7):=by simp [World.cell?,hbx.blk]
            have HOM:Hid ((Bx.lays fs ss).length=om):=hom
            obtain ⟨r4,r5⟩:=Bx.res_cell hbr
            clear HC HZ hbx hom
            by_cases ho:40 < om
            · have HR:Hid (Bx.lay fs ss=([],2)):=by rw [Hid,Bx.lay,if_neg HNO.out,if_pos (by rw [HOM.out];exact ho)]
              have ho2:decide ((40:Int) < (om:Int))=true:=by simp;omega
              go_wp2
              refine bodyPost_ret (v:=.tuple #[.agg #[.slice none 0 0],.int .i64 2]) (by simp [results,Tryz.results5,go_sem,r4]) rfl ?_
              rw [HR.out]
              exact Bx.LayPost.none (hbw.setCell (p:=⟨w.heap.size+1,0,none⟩) (by simp only;omega) _)
            · have HR:Hid (Bx.lay fs ss=(Bx.lays fs ss,0)):=by rw [Hid,Bx.lay,if_neg HNO.out,if_neg (by rw [HOM.out];exact ho)]
              have ho2:decide ((40:Int) < (om:Int))=false:=by simp;omega
              rw [HOM.out] at HPL
              go_wp2_with (go_at_call 22;refine HPL.out.mono ?_;rintro e w8 ⟨a8,c8,rfl,hown8,hb8⟩;obtain ⟨r6,r7⟩:=Bx.res_cell (hbr.trans (hb8.mono hzr));have hbw8:Below w.heap.size w w8:=hbw.trans (hb8.mono hbw.size))
              refine bodyPost_ret (v:=.tuple #[.agg #[.slice a8 om c8],.int .i64 0]) (by simp [results,Tryz.results5,go_sem,r6]) rfl ?_
              rw [HR.out]
              refine ⟨a8,c8,by rw [HOM.out], ?_, ?_⟩
              · rw [HOM.out];exact Bx.own_mono (ownsRow_setCell_below hown8 (a:=⟨w.heap.size+1,0,none⟩) (by simp only;omega) _) (by omega)
              · exact hbw8.setCell (p:=⟨w.heap.size+1,0,none⟩) (by simp only;omega) _
end Go.Proofs.YtkikhpppkpelfaaGreat
