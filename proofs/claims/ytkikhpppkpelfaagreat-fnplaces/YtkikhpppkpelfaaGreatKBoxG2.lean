import Derived.Test.YtkikhpppkpelfaaGreatKTk
import Derived.Test.YtkikhpppkpelfaaGreatKBoxI
set_option maxRecDepth 100000
set_option maxHeartbeats 2000000
namespace Go.Proofs.YtkikhpppkpelfaaGreat
open Go.RowKit Go.Maps Go.WideMaps
theorem Bx.set_new (B g:Nat) (fs:List Bx.Fl) (hu:Bx.Up fs) (mb K:Nat) (a0:Option Addr) (n cap:Nat) (hn:fs.length=n) (a b:ByteArray) (w:World) (hB:B≤w.heap.size) (hl:n≤1000) (hK:K≤1000) (ha:a.size≤1048576) (h:Bx.BoxAt w B g fs (fs.map Bx.Fl.name) mb K a0 n cap) (hf:Bx.look fs a=none) :
    Calls Tryz.prog 21 #[.pointer (some ⟨g,0,none⟩),.agg #[.string a,.string b]] w (Bx.SetPost B g fs mb K a b w):=by
  have hg:g < w.heap.size:=(Array.getElem?_eq_some_iff.1 h.blk).1
  have HBX:Hid (Bx.BoxAt w B g fs (fs.map Bx.Fl.name) mb K a0 n cap):=h
  have HS:Hid (∀ W,Below (w.heap.size+1) (w.alloc (.cells #[.string a,.string b] 36)) W→W.cell? ⟨g,0,none⟩=some (.map (some mb))∧W.cell? ⟨g,1,none⟩=some (.slice a0 n cap)∧W.cell? ⟨w.heap.size,0,none⟩=some (.string a)∧W.cell? ⟨w.heap.size,1,none⟩=some (.string b)∧(Instr.lookup 52 (.map (some mb)) (.string a) true).run Tryz.prog W = .ok (.tuple #[.agg #[.string ⟨#[]⟩,.string ⟨#[]⟩],.bool false]) W):=fun W hW=>by
    have hw:Below w.heap.size w W:=((Below.refl _ w).alloc (Nat.le_refl _) _).trans (hW.mono (by omega))
    have h2:=h.below hw
    have h3:=h2.look (x:=a) ha
    rw [hf] at h3
    exact ⟨by simp [World.cell?,h2.blk],by simp [World.cell?,h2.blk],(Rp.row2 hW).1,(Rp.row2 hW).2,h3⟩
  clear h
  have HU:Hid (Bx.Up fs):=hu
  have HNN:Hid (fs.length=n):=hn
  have HFF:Hid (Bx.look fs a=none):=hf
  clear hu hn hf
  have HSC:Hid (∀ W,Below (w.heap.size+1) (w.alloc (.cells #[.string a,.string b] 36)) W→W.cell? ⟨g,0,none⟩=some (.map (some mb))∧W.cell? ⟨g,1,none⟩=some (.slice a0 n cap)∧W.cell? ⟨w.heap.size,0,none⟩=some (.string a)∧W.cell? ⟨w.heap.size,1,none⟩=some (.string b)):=fun W hW=>⟨(HS.out W hW).1,(HS.out W hW).2.1,(HS.out W hW).2.2.1,(HS.out W hW).2.2.2.1⟩
  have hX:Below w.heap.size w ((w.alloc (.cells #[.string a,.string b] 36)).alloc (.cells #[.string ⟨#[]⟩,.string ⟨#[]⟩] 36)).drew.drew:=(((Below.refl _ w).alloc (Nat.le_refl _) _).alloc (by simp) _).drew.drew
  have hX1:Below (w.heap.size+1) (w.alloc (.cells #[.string a,.string b] 36)) ((w.alloc (.cells #[.string a,.string b] 36)).alloc (.cells #[.string ⟨#[]⟩,.string ⟨#[]⟩] 36)).drew.drew:=((Below.refl _ _).alloc (by simp) _).drew.drew
  have hXa:Below (w.heap.size+1) (w.alloc (.cells #[.string a,.string b] 36)) ((w.alloc (.cells #[.string a,.string b] 36)).alloc (.cells #[.string ⟨#[]⟩,.string ⟨#[]⟩] 36)):=(Below.refl _ _).alloc (by simp) _
  go_enter Tryz.func21,Tryz.ntmps21
  go_wp2_with fail
  refine wp_region_held_drew (S:=(fun W=>Below (w.heap.size+1) (w.alloc (.cells #[.string a,.string b] 36)) W∧W.cell? ⟨g,0,none⟩=some (.map (some mb))∧W.cell? ⟨g,1,none⟩=some (.slice a0 n cap)∧W.cell? ⟨w.heap.size,0,none⟩=some (.string a)∧W.cell? ⟨w.heap.size,1,none⟩=some (.string b)∧(Instr.lookup 52 (.map (some mb)) (.string a) true).run Tryz.prog W = .ok (.tuple #[.agg #[.string ⟨#[]⟩,.string ⟨#[]⟩],.bool false]) W)) (by kernel_rfl) (⟨(Below.refl _ _).drew,HS.out _ (Below.refl _ _).drew⟩) (fun hHeld => ?_)
  refine Tk 0 (.pointer (some ⟨g,0,none⟩)) rfl ?_
  try simp [Act.put]
  refine Tk 1 (.pointer (some ⟨g,0,none⟩)) rfl ?_
  try simp [Act.put]
  refine Tk 2 (.pointer (some ⟨g,0,none⟩)) rfl ?_
  try simp [Act.put]
  refine Tk 3 (.map (some mb)) rfl ?_
  try simp [Act.put]
  refine Tk 4 (.pointer (some ⟨w.heap.size,0,none⟩)) rfl ?_
  try simp [Act.put]
  refine Tk 5 (.string a) rfl ?_
  try simp [Act.put]
  refine Tk 6 (.tuple #[.agg #[.string ⟨#[]⟩,.string ⟨#[]⟩],.bool false]) rfl ?_
  try simp [Act.put]
  refine Tk 7 (.tuple #[.agg #[.string ⟨#[]⟩,.string ⟨#[]⟩],.bool false]) rfl ?_
  try simp [Act.put]
  refine Tk 8 (.agg #[.string ⟨#[]⟩,.string ⟨#[]⟩]) rfl ?_
  try simp [Act.put]
  refine Tk 9 (.bool false) rfl ?_
  try simp [Act.put]
  refine wpAnyH_ready (rs:=[10]) (by kernel_rfl) (by simp) ?_
  refine AllReadyH.cons rfl (fun KK hK => ?_) AllReadyH.nil
  go_simp
  refine hK.out _ _ (⟨((Below.refl _ _).alloc (by simp) _).drew,HS.out _ ((Below.refl _ _).alloc (by simp) _).drew⟩) (fun hHeld => ?_)
  clear hK
  try simp [Act.put]
  refine wpAnyH_ready (rs:=[11]) (by kernel_rfl) (by simp) ?_
  refine AllReadyH.cons rfl (fun KK hK => ?_) AllReadyH.nil
  go_simp
  refine hK.out _ _ (⟨((Below.refl _ _).alloc (by simp) _).drew,HS.out _ ((Below.refl _ _).alloc (by simp) _).drew⟩) (fun hHeld => ?_)
  clear hK
  try simp [Act.put]
  refine Tk 12 (.bool false) rfl ?_
  try simp [Act.put]
  refine wpAnyH_done (by kernel_rfl) ?_ _
  go_wp2_with fail
  refine wp_region_held_drew (S:=(fun W=>Below (w.heap.size+1) (w.alloc (.cells #[.string a,.string b] 36)) W∧W.cell? ⟨g,0,none⟩=some (.map (some mb))∧W.cell? ⟨g,1,none⟩=some (.slice a0 n cap)∧W.cell? ⟨w.heap.size,0,none⟩=some (.string a)∧W.cell? ⟨w.heap.size,1,none⟩=some (.string b))) (by kernel_rfl) (⟨hX1,HSC.out _ hX1⟩) (fun hHeld => ?_)
  refine Tk 0 (.pointer (some ⟨g,0,none⟩)) rfl ?_
  try simp [Act.put]
  refine Tk 1 (.pointer (some ⟨g,0,none⟩)) rfl ?_
  try simp [Act.put]
  refine Tk 2 (.pointer (some ⟨g,1,none⟩)) rfl ?_
  try simp [Act.put]
  refine Tk 3 (.slice a0 n cap) rfl ?_
  try simp [Act.put]
  refine Tk 4 (.pointer (some ⟨w.heap.size,0,none⟩)) rfl ?_
  try simp [Act.put]
  refine Tk 5 (.string a) rfl ?_
  try simp [Act.put]
  refine wpAnyH_ready (rs:=[6]) (by kernel_rfl) (by simp) ?_
  refine AllReadyH.cons rfl (fun KK hK => ?_) AllReadyH.nil
  go_simp
  (go_at_call 32;refine (Bx.search_any B fs HU.out a0 n cap HNN.out a _ (by omega) ((HBX.out.below hX).row) HFF.out).mono ?_;rintro e w3 ⟨rfl,q,rfl⟩)
  go_wp2
  refine hK.out _ _ (⟨Jb.below_drewN _ hXa,HSC.out _ (Jb.below_drewN _ hXa)⟩) (fun hHeld => ?_)
  clear hK
  try simp [Act.put]
  refine Tk 7 (.tuple #[.int .i64 (Bx.cut fs a:Nat),.bool false]) rfl ?_
  try simp [Act.put]
  refine Tk 8 (.int .i64 (Bx.cut fs a:Nat)) rfl ?_
  try simp [Act.put]
  refine Tk 9 (.bool false) rfl ?_
  try simp [Act.put]
  refine Tk 10 (.int .i64 (Bx.cut fs a:Nat)) rfl ?_
  try simp [Act.put]
  refine Tk 11 (.bool false) rfl ?_
  try simp [Act.put]
  refine wpAnyH_done (by kernel_rfl) ?_ _
  go_wp2_with fail
  clear hHeld
  obtain ⟨Y,hY⟩:∃ Y,((w.alloc (.cells #[.string a,.string b] 36)).alloc (.cells #[.string ⟨#[]⟩,.string ⟨#[]⟩] 36)).drewN (1+(1+q))=Y:=⟨_,rfl⟩
  have hY1:Below (w.heap.size+1) (w.alloc (.cells #[.string a,.string b] 36)) Y:=by rw [← hY];exact Jb.below_drewN _ hXa
  have hYw:Below w.heap.size w Y:=((Below.refl _ w).alloc (Nat.le_refl _) _).trans (hY1.mono (by omega))
  rw [hY]
  clear hY
  have hBY:=HBX.out.below hYw
  have hne2:=hBY.rowne
  have HBY:Hid (Bx.BoxAt Y B g fs (fs.map Bx.Fl.name) mb K a0 n cap):=hBY
  obtain ⟨d0,d1,d2,d3⟩:=HSC.out Y hY1
  have hgY:g < Y.heap.size:=Nat.lt_of_lt_of_le hg hYw.size
  have hwY:w.heap.size < Y.heap.size:=by have:=hY1.size;simp at this;omega
  have HCU:Hid (Bx.cut fs a≤n):=by have:=Bx.cut_le fs a;rw [HNN.out] at this;exact this
  have HIN:Hid (∀ W,Below Y.heap.size Y W→W.heap[Y.heap.size]? = some (.cells #[.string a] 9 (0,0))→Calls Tryz.prog 33 #[.slice a0 n cap,.int .i64 (Bx.cut fs a:Nat),.slice (some ⟨Y.heap.size,0,none⟩) 1 1] W (Bi.InsertPost B ((fs.map Bx.Fl.name).take (Bx.cut fs a)++[a]++(fs.map Bx.Fl.name).drop (Bx.cut fs a)) (Value.slice a0 n cap).ownBlock W)):=fun W hW hv =>
    Bi.insert_any B (fs.map Bx.Fl.name) n (Bx.cut fs a) (by rw [List.length_map];exact HNN.out) HCU.out a a0 cap Y.heap.size W (by omega) (Nat.le_trans (Nat.le_trans hB hYw.size) hW.size) (Bx.own_below hBY.row hW) hv (fun e=>by
      rcases hBY.row.2 with ⟨h,h0⟩ | ⟨g2,c2,cur,h,_,hg2,_⟩
      · rw [h] at e;cases e
      · rw [h] at e
        have:g2=Y.heap.size:=by simpa [Value.ownBlock] using e
        have:=(Array.getElem?_eq_some_iff.1 hg2).1
        omega)
  have HK4:Hid (∀ W w4,Below Y.heap.size Y W→W.grownBy w4 (Value.slice a0 n cap).ownBlock→(w4.heap[g]? = Y.heap[g]? ∧ w4.heap[w.heap.size]? = Y.heap[w.heap.size]? ∧ w4.cell? ⟨g,0,none⟩=some (.map (some mb))∧w4.cell? ⟨g,1,none⟩=some (.slice a0 n cap)∧w4.cell? ⟨w.heap.size,0,none⟩=some (.string a)∧w4.cell? ⟨w.heap.size,1,none⟩=some (.string b)∧w4.frozen? ⟨g,1,none⟩=false)):=fun W w4 hW hg4=>by
    have e1:w4.heap[g]? = Y.heap[g]?:=by
      rw [hg4.block g (Nat.lt_of_lt_of_le hgY hW.size) (fun e=>by rcases hne2 with h | h;(rw [h] at e;cases e);exact h.2 e.symm),hW.block g hgY]
    have e2:w4.heap[w.heap.size]? = Y.heap[w.heap.size]?:=by
      rw [hg4.block _ (Nat.lt_of_lt_of_le hwY hW.size) (fun e=>by
        rcases HBX.out.row.2 with ⟨h,h0⟩ | ⟨g2,c2,cur,h,_,hg2,_⟩
        · rw [h] at e;cases e
        · rw [h] at e
          have e3:w.heap.size=g2:=by simpa [Value.ownBlock] using e
          have:=(Array.getElem?_eq_some_iff.1 hg2).1
          omega),hW.block _ hwY]
    exact ⟨e1,e2,by rw [Bx.cell_of e1];exact d0,by rw [Bx.cell_of e1];exact d1,by rw [Bx.cell_of e2];exact d2,by rw [Bx.cell_of e2];exact d3,by simp [World.frozen?,e1,hBY.blk]⟩
  have HLN:Hid (((fs.map Bx.Fl.name).take (Bx.cut fs a)++[a]++(fs.map Bx.Fl.name).drop (Bx.cut fs a)).length=n+1):=by
    have h1:=HCU.out
    have h2:(fs.map Bx.Fl.name).length=n:=by rw [List.length_map];exact HNN.out
    rw [Hid,List.length_append,List.length_append,List.length_take,List.length_drop,h2,List.length_singleton];omega
  have HPN:Hid ((Bx.put fs ⟨a,b⟩).map Bx.Fl.name=(fs.map Bx.Fl.name).take (Bx.cut fs a)++[a]++(fs.map Bx.Fl.name).drop (Bx.cut fs a)):=Bx.put_names ⟨a,b⟩ (Bx.look_none_iff.1 HFF.out)
  have HPL:Hid ((Bx.put fs ⟨a,b⟩).length=n+1):=by rw [Hid,← List.length_map (f:=Bx.Fl.name),HPN.out];exact HLN.out
  clear hBY hX hX1 hXa
  generalize Bx.cut fs a=cu at *
  go_region_with (go_at_call 33;refine (HIN.out _ (by repeat' (first | exact Below.refl _ _ | apply Below.drew | refine Below.alloc ?_ ?_ _ | exact Nat.le_refl _ | (simp;done))) (by first | exact (MapKept.heap_alloc _ _).1)).mono ?_;rintro e w4 ⟨a9,cap9,rfl,hrow9,hg9⟩;rw [HLN.out] at hrow9 ⊢;obtain ⟨k1,k2,e0,e1,e2,e3,e4⟩:=HK4.out _ w4 (by repeat' (first | exact Below.refl _ _ | apply Below.drew | refine Below.alloc ?_ ?_ _ | exact Nat.le_refl _ | (simp;done))) hg9)
  all_goals
    obtain ⟨hV,hVb⟩:=Bx.after_insert HBY.out hg9 (by repeat' (first | exact Below.refl _ _ | apply Below.drew | refine Below.alloc ?_ ?_ _ | exact Nat.le_refl _ | (simp;done))) hrow9 (hYw.mono hB)
    have HLE:Hid (B≤(w4.setCell ⟨g,1,none⟩ (.slice a9 (n+1) cap9)).heap.size):=Nat.le_trans hB hVb.size
    have HV:Hid (Bx.BoxAt (w4.setCell ⟨g,1,none⟩ (.slice a9 (n+1) cap9)).drew B g fs ((fs.map Bx.Fl.name).take cu++[a]++(fs.map Bx.Fl.name).drop cu) mb K a9 (n+1) cap9):=⟨hV.blk,hV.le,hV.lem,hV.map,hV.row⟩
    have HVB:Hid (Below B w (w4.setCell ⟨g,1,none⟩ (.slice a9 (n+1) cap9)).drew):=hVb.drew
    obtain ⟨W6,hrun,hm6,hg6⟩:=Bx.MapIs.store HV.out.map HU.out (by omega) a b ha
    have HB6:Hid (Bx.BoxAt W6 B g (Bx.put fs ⟨a,b⟩) ((Bx.put fs ⟨a,b⟩).map Bx.Fl.name) mb (K+1) a9 (n+1) cap9):=by
      have e:=HV.out.store hm6 hg6
      rw [← HPN.out] at e;exact e
    have HG6:Hid (Below B w W6):=Below.grown HVB.out hg6 HLE.out (fun k hk=>by injection hk with hk;rw [← hk];exact HV.out.lem)
    have hs1:(w4.setCell ⟨g,1,none⟩ (.slice a9 (n+1) cap9)).drew.cell? ⟨g,0,none⟩=some (.map (some mb))∧(w4.setCell ⟨g,1,none⟩ (.slice a9 (n+1) cap9)).drew.cell? ⟨g,1,none⟩=some (.slice a9 (n+1) cap9)∧(w4.setCell ⟨g,1,none⟩ (.slice a9 (n+1) cap9)).drew.cell? ⟨w.heap.size,0,none⟩=some (.string a)∧(w4.setCell ⟨g,1,none⟩ (.slice a9 (n+1) cap9)).drew.cell? ⟨w.heap.size,1,none⟩=some (.string b):=by
      have hgw:¬ g=w.heap.size:=by omega
      have hb:=HV.out.blk
      refine ⟨by simp [World.cell?,hb],by simp [World.cell?,hb], ?_, ?_⟩
      · rw [← e2];exact Bx.cell_of (w:=w4) (by simp [World.drew,World.setCell,Array.getElem?_modify,hgw])
      · rw [← e3];exact Bx.cell_of (w:=w4) (by simp [World.drew,World.setCell,Array.getElem?_modify,hgw])
    have HS5:Hid ((w4.setCell ⟨g,1,none⟩ (.slice a9 (n+1) cap9)).drew.cell? ⟨g,0,none⟩=some (.map (some mb))∧(w4.setCell ⟨g,1,none⟩ (.slice a9 (n+1) cap9)).drew.cell? ⟨g,1,none⟩=some (.slice a9 (n+1) cap9)∧(w4.setCell ⟨g,1,none⟩ (.slice a9 (n+1) cap9)).drew.cell? ⟨w.heap.size,0,none⟩=some (.string a)∧(w4.setCell ⟨g,1,none⟩ (.slice a9 (n+1) cap9)).drew.cell? ⟨w.heap.size,1,none⟩=some (.string b)):=hs1
    have HS6:Hid (W6.cell? ⟨g,0,none⟩=some (.map (some mb))∧W6.cell? ⟨g,1,none⟩=some (.slice a9 (n+1) cap9)∧W6.cell? ⟨w.heap.size,0,none⟩=some (.string a)∧W6.cell? ⟨w.heap.size,1,none⟩=some (.string b)):=by
      have hmb:mb < w.heap.size:=by obtain ⟨D,ho,_⟩:=HBX.out.map;exact ho.lt
      have hk:∀ k,k < w.heap.size+1→k≠mb→W6.heap[k]? = (w4.setCell ⟨g,1,none⟩ (.slice a9 (n+1) cap9)).drew.heap[k]?:=fun k hk hne=>hg6.block k (Nat.lt_of_lt_of_le hk (by have h1:=hg9.size;have h2:=hY1.size;simp [World.drew] at h1 h2 ⊢;omega)) (fun e=>hne (by injection e))
      exact ⟨by rw [← hs1.1];exact Bx.cell_of (hk g (by omega) HBX.out.ne),by rw [← hs1.2.1];exact Bx.cell_of (hk g (by omega) HBX.out.ne),by rw [← hs1.2.2.1];exact Bx.cell_of (hk w.heap.size (by omega) (by omega)),by rw [← hs1.2.2.2];exact Bx.cell_of (hk w.heap.size (by omega) (by omega))⟩
    clear hm6 hg6 hs1 e0 e1 e2 e3 e4 k1 k2 hrow9 hV hVb d0 d1 d2 d3
    go_wp2_with fail
    refine wp_region_held_drew (S:=(fun W=>W.cell? ⟨g,0,none⟩=some (.map (some mb))∧W.cell? ⟨g,1,none⟩=some (.slice a9 (n+1) cap9)∧W.cell? ⟨w.heap.size,0,none⟩=some (.string a)∧W.cell? ⟨w.heap.size,1,none⟩=some (.string b))) (by kernel_rfl) (HS5.out) (fun hHeld => ?_)
    refine Tk 0 (.pointer (some ⟨g,0,none⟩)) rfl ?_
    try simp [Act.put]
    refine Tk 1 (.pointer (some ⟨g,0,none⟩)) rfl ?_
    try simp [Act.put]
    refine Tk 2 (.pointer (some ⟨g,0,none⟩)) rfl ?_
    try simp [Act.put]
    refine Tk 3 (.map (some mb)) rfl ?_
    try simp [Act.put]
    refine Tk 4 (.pointer (some ⟨w.heap.size,0,none⟩)) rfl ?_
    try simp [Act.put]
    refine Tk 5 (.string a) rfl ?_
    try simp [Act.put]
    refine Tk 6 (.agg #[.string a,.string b]) rfl ?_
    try simp [Act.put]
    refine wpAnyH_ready (rs:=[7]) (by kernel_rfl) (by simp) ?_
    refine AllReadyH.cons rfl (fun KK hK => ?_) AllReadyH.nil
    go_simp
    refine hK.out _ _ (HS6.out) (fun hHeld => ?_)
    clear hK
    try simp [Act.put]
    refine wpAnyH_done (by kernel_rfl) ?_ _
    go_wp2
    go_end0
    exact ⟨rfl,⟨a9,n+1,cap9,HPL.out,HB6.out⟩,HG6.out⟩
end Go.Proofs.YtkikhpppkpelfaaGreat
namespace Go.Proofs.YtkikhpppkpelfaaGreat
open Go.RowKit Go.Maps Go.WideMaps
theorem Bx.set_any (B g:Nat) (fs:List Bx.Fl) (hu:Bx.Up fs) (mb K:Nat) (a0:Option Addr) (n cap:Nat) (hn:fs.length=n) (a b:ByteArray) (w:World) (hB:B≤w.heap.size) (hl:n≤1000) (hK:K≤1000) (ha:a.size≤1048576) (h:Bx.BoxAt w B g fs (fs.map Bx.Fl.name) mb K a0 n cap) :
    Calls Tryz.prog 21 #[.pointer (some ⟨g,0,none⟩),.agg #[.string a,.string b]] w (Bx.SetPost B g fs mb K a b w):=by
  cases hf:Bx.look fs a with
  | some f0=>exact Bx.set_there B g fs hu mb K a0 n cap hn a b w hB hl hK ha h f0 hf
  | none=>exact Bx.set_new B g fs hu mb K a0 n cap hn a b w hB hl hK ha h hf
def Bx.Holds (w:World) (B g:Nat) (fs:List Bx.Fl) (K:Nat):Prop := ∃ mb a n cap,fs.length=n∧Bx.BoxAt w B g fs (fs.map Bx.Fl.name) mb K a n cap
theorem Bx.Holds.below {w w':World} {B g:Nat} {fs:List Bx.Fl} {K:Nat} (h:Bx.Holds w B g fs K) (hb:Below w.heap.size w w'):Bx.Holds w' B g fs K:=by
  obtain ⟨mb,a,n,cap,hn,h⟩:=h;exact ⟨mb,a,n,cap,hn,h.below hb⟩
theorem Bx.Holds.lt {w:World} {B g:Nat} {fs:List Bx.Fl} {K:Nat} (h:Bx.Holds w B g fs K):B≤g∧g < w.heap.size:=by
  obtain ⟨mb,a,n,cap,hn,h⟩:=h;exact ⟨h.le,(Array.getElem?_eq_some_iff.1 h.blk).1⟩
theorem Bx.set_holds (B g:Nat) (fs:List Bx.Fl) (hu:Bx.Up fs) (K:Nat) (a b:ByteArray) (w:World) (hB:B≤w.heap.size) (hl:fs.length≤1000) (hK:K≤1000) (ha:a.size≤1048576) (h:Bx.Holds w B g fs K) :
    Calls Tryz.prog 21 #[.pointer (some ⟨g,0,none⟩),.agg #[.string a,.string b]] w fun e w'=>e = .returned (.tuple #[])∧Bx.Holds w' B g (Bx.put fs ⟨a,b⟩) (K+1)∧Below B w w':=by
  obtain ⟨mb,a0,n,cap,hn,h⟩:=h
  refine (Bx.set_any B g fs hu mb K a0 n cap hn a b w hB (by omega) hK ha h).mono ?_
  rintro e w' ⟨rfl,⟨a1,n1,cap1,hn1,h1⟩,hb⟩
  exact ⟨rfl,⟨mb,a1,n1,cap1,hn1,h1⟩,hb⟩
theorem Bx.boxOf_any (fs:List Bx.Fl) (hu:Bx.Up fs) (v:Value) (w:World) (hl:fs.length≤900) (hx:∀ d ∈ fs,d.name.size≤1048576) (hN:Bx.Off w v fs) :
    Calls Tryz.prog 20 #[.agg #[v]] w fun e w' => ∃ g,e = .returned (.pointer (some ⟨g,0,none⟩))∧Bx.Holds w' w.heap.size g fs fs.length∧Below w.heap.size w w':=by
  have hmm:=@run_makeMap Tryz.prog
  obtain ⟨p,cap,rfl,hc⟩:=hN
  obtain ⟨n,HN⟩:∃ n,Hid (fs.length=n):=⟨_,(rfl:fs.length=_)⟩
  have HC:Hid (∀ i (hi:i < fs.length),∃ g o,p=some ⟨g,o,none⟩∧g < w.heap.size∧w.cell? ⟨g,o+i * 2,none⟩=some (.string fs[i].name)∧w.cell? ⟨g,o+i * 2+1,none⟩=some (.string fs[i].text)):=hc
  clear hc
  rw [HN.out] at hl
  simp only [HN.out]
  go_enter Tryz.func20,Tryz.ntmps20
  go_wp2_with fail
  have H0:Bx.Holds (((w.alloc (Obj.cells #[Value.slice p n cap] 25)).alloc (Obj.map #[] 0)).alloc (Obj.cells #[Value.map (some (w.heap.size+1)),Value.slice none 0 0] 54)) (w.heap.size+1) (w.heap.size+1+1) (fs.take 0) 0:=by
    refine ⟨w.heap.size+1,none,0,0,by simp, ?_,by omega,by omega, ?_, ?_⟩
    · have h:=(MapKept.heap_alloc ((w.alloc (Obj.cells #[Value.slice p n cap] 25)).alloc (Obj.map #[] 0)) (Obj.cells #[Value.map (some (w.heap.size+1)),Value.slice none 0 0] 54)).1
      simpa using h
    · have h:((w.alloc (Obj.cells #[Value.slice p n cap] 25)).alloc (Obj.map #[] 0)).ownsMap Tryz.prog 9 Bx.elem (w.alloc (Obj.cells #[Value.slice p n cap] 25)).heap.size 0 (.map []):=World.ownsMap_made _ _ _ _
      rw [World.size_alloc] at h
      exact ⟨_,h.alloc _,by simpa using Bx.reads_nil⟩
    · exact ⟨by simp [Bi.ints],.inl ⟨rfl,rfl⟩⟩
  have HH0:=(show Hid (Bx.Holds _ (w.heap.size+1) (w.heap.size+1+1) (fs.take 0) 0) from H0)
  clear H0
  have hb0:Below w.heap.size w (((w.alloc (Obj.cells #[Value.slice p n cap] 25)).alloc (Obj.map #[] 0)).alloc (Obj.cells #[Value.map (some (w.heap.size+1)),Value.slice none 0 0] 54)):=(((Below.refl _ w).alloc (Nat.le_refl _) _).alloc (by simp) _).alloc (by simp only [World.size_alloc];omega) _
  go_loopw [12] (fun t wr => ∃ i:Nat,i≤n∧t = .int .i64 (i:Int)∧Bx.Holds wr (w.heap.size+1) (w.heap.size+1+1) (fs.take i) i∧Below w.heap.size w wr) (fun t _=>n - (intOf t).toNat)
  case atStart=>exact ⟨0,by omega,rfl,HH0.out,hb0⟩
  case round =>
    obtain ⟨i,hi,rfl,hH,hbw⟩:=hrel
    have hz:=hbw.size
    by_cases hlt:i < n
    · have hil:i < fs.length:=by rw [HN.out];exact hlt
      obtain ⟨g,o,rfl,hg,hcell,hcell2⟩:=HC.out i hil
      have e0:wr.cell? ⟨g,o+i * 2,none⟩=some (.string fs[i].name):=by rw [hbw.cell (p:=⟨g,o+i * 2,none⟩) hg,hcell]
      have e1:wr.cell? ⟨g,o+i * 2+1,none⟩=some (.string fs[i].text):=by rw [hbw.cell (p:=⟨g,o+i * 2+1,none⟩) hg,hcell2]
      have hxd:=hx fs[i] (List.getElem_mem hil)
      have hlw:w.heap.size+1≤wr.heap.size:=by have:=hH.lt;omega
      have HST:Hid (∀ o:Obj,Calls Tryz.prog 21 #[.pointer (some ⟨w.heap.size+1+1,0,none⟩),.agg #[.string fs[i].name,.string fs[i].text]] (wr.alloc o) fun e w'=>e = .returned (.tuple #[])∧Bx.Holds w' (w.heap.size+1) (w.heap.size+1+1) (fs.take (i+1)) (i+1)∧Below (w.heap.size+1) (wr.alloc o) w'):=fun o=>by
        have:=Bx.set_holds (w.heap.size+1) (w.heap.size+1+1) (fs.take i) (Bx.up_take hu i) i fs[i].name fs[i].text (wr.alloc o) (by simp;omega) (by simp;omega) (by omega) hxd (hH.below ((Below.refl _ wr).alloc (Nat.le_refl _) o))
        rw [show (⟨fs[i].name,fs[i].text⟩:Bx.Fl)=fs[i] from rfl,Bx.build_up fs hu i hil] at this
        exact this
      generalize fs[i]=d at *
      clear hcell hcell2 HC HH0 hb0 hH
      go_wp2_with (go_at_call 21;refine (HST.out _).mono ?_;rintro e w1 ⟨rfl,hH1,hb1⟩)
      go_roundw
      case rel=>exact ⟨i+1,by omega,by go_num,hH1,(hbw.alloc hz _).trans (hb1.mono (by omega))⟩
      case measure=>simp [intOf];omega
    · have hie:i=n:=by omega
      subst hie
      have HF:Hid (Bx.Holds wr w.heap.size (w.heap.size+1+1) fs i):=by
        have e:fs.take i=fs:=List.take_of_length_le (by rw [HN.out];omega)
        rw [e] at hH
        obtain ⟨mb,a,n,cap,hn,h⟩:=hH
        exact ⟨mb,a,n,cap,hn,h.blk,by omega,by have:=h.lem;omega,h.map,Bx.own_mono h.row (by omega)⟩
      clear HC hH HH0
      go_wp2
      go_ret
      exact ⟨_,rfl,HF.out,hbw⟩
end Go.Proofs.YtkikhpppkpelfaaGreat
