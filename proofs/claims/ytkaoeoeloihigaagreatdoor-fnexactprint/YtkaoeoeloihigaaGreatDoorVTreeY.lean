import Derived.Test.YtkaoeoeloihigaaGreatDoorVTreeS
namespace Go.Proofs.YtkaoeoeloihigaaGreatDoor
open Go.RowKit

def Mill.ndEq (a b : Mill.Nd) : Bool := (a.kind == b.kind) && (a.op == b.op) && (a.type == b.type) && (a.n == b.n) && (a.text.toList == b.text.toList) && (a.kids == b.kids)
theorem Tryz.meth_intNode (v : Value) (w : World) : (method 318 122 v "loop.example/kilnmill/impl.parts").run Tryz.prog w = .ok (136, v) w := by kernel_rfl
theorem Tryz.meth_textNode (v : Value) (w : World) : (method 318 124 v "loop.example/kilnmill/impl.parts").run Tryz.prog w = .ok (137, v) w := by kernel_rfl
theorem Tryz.meth_boolNode (v : Value) (w : World) : (method 318 126 v "loop.example/kilnmill/impl.parts").run Tryz.prog w = .ok (138, v) w := by kernel_rfl
theorem Tryz.meth_nameNode (v : Value) (w : World) : (method 318 128 v "loop.example/kilnmill/impl.parts").run Tryz.prog w = .ok (139, v) w := by kernel_rfl
theorem Tryz.meth_unNode (v : Value) (w : World) : (method 318 130 v "loop.example/kilnmill/impl.parts").run Tryz.prog w = .ok (140, v) w := by kernel_rfl
theorem Tryz.meth_binNode (v : Value) (w : World) : (method 318 132 v "loop.example/kilnmill/impl.parts").run Tryz.prog w = .ok (141, v) w := by kernel_rfl
theorem Tryz.meth_callNode (v : Value) (w : World) : (method 318 134 v "loop.example/kilnmill/impl.parts").run Tryz.prog w = .ok (142, v) w := by kernel_rfl
theorem Tryz.meth_builtNode (v : Value) (w : World) : (method 318 139 v "loop.example/kilnmill/impl.parts").run Tryz.prog w = .ok (143, v) w := by kernel_rfl
theorem Tryz.meth_convNode (v : Value) (w : World) : (method 318 141 v "loop.example/kilnmill/impl.parts").run Tryz.prog w = .ok (144, v) w := by kernel_rfl
theorem Tryz.meth_letNode (v : Value) (w : World) : (method 318 143 v "loop.example/kilnmill/impl.parts").run Tryz.prog w = .ok (145, v) w := by kernel_rfl
theorem Tryz.meth_setNode (v : Value) (w : World) : (method 318 144 v "loop.example/kilnmill/impl.parts").run Tryz.prog w = .ok (146, v) w := by kernel_rfl
theorem Tryz.meth_ifNode (v : Value) (w : World) : (method 318 156 v "loop.example/kilnmill/impl.parts").run Tryz.prog w = .ok (153, v) w := by kernel_rfl
theorem Tryz.meth_whileNode (v : Value) (w : World) : (method 318 158 v "loop.example/kilnmill/impl.parts").run Tryz.prog w = .ok (154, v) w := by kernel_rfl
theorem Tryz.meth_breakNode (v : Value) (w : World) : (method 318 146 v "loop.example/kilnmill/impl.parts").run Tryz.prog w = .ok (147, v) w := by kernel_rfl
theorem Tryz.meth_continueNode (v : Value) (w : World) : (method 318 147 v "loop.example/kilnmill/impl.parts").run Tryz.prog w = .ok (148, v) w := by kernel_rfl
theorem Tryz.meth_returnNode (v : Value) (w : World) : (method 318 149 v "loop.example/kilnmill/impl.parts").run Tryz.prog w = .ok (149, v) w := by kernel_rfl
theorem Tryz.meth_failNode (v : Value) (w : World) : (method 318 151 v "loop.example/kilnmill/impl.parts").run Tryz.prog w = .ok (150, v) w := by kernel_rfl
theorem Tryz.meth_writeNode (v : Value) (w : World) : (method 318 153 v "loop.example/kilnmill/impl.parts").run Tryz.prog w = .ok (151, v) w := by kernel_rfl
theorem Tryz.meth_sayNode (v : Value) (w : World) : (method 318 154 v "loop.example/kilnmill/impl.parts").run Tryz.prog w = .ok (152, v) w := by kernel_rfl
theorem Tryz.meth_doNode (v : Value) (w : World) : (method 318 160 v "loop.example/kilnmill/impl.parts").run Tryz.prog w = .ok (155, v) w := by kernel_rfl
theorem Tryz.meth_blockNode (v : Value) (w : World) : (method 318 58 v "loop.example/kilnmill/impl.parts").run Tryz.prog w = .ok (133, v) w := by kernel_rfl
theorem Tryz.meth_paramNode (v : Value) (w : World) : (method 318 85 v "loop.example/kilnmill/impl.parts").run Tryz.prog w = .ok (135, v) w := by kernel_rfl
theorem Tryz.meth_fnNode (v : Value) (w : World) : (method 318 60 v "loop.example/kilnmill/impl.parts").run Tryz.prog w = .ok (134, v) w := by kernel_rfl
theorem Tryz.meth_programNode (v : Value) (w : World) : (method 318 47 v "loop.example/kilnmill/impl.parts").run Tryz.prog w = .ok (130, v) w := by kernel_rfl
theorem Mill.bl_slice {us : List Value} {ks : List Int} (hk : Mill.Kinded us ks) (i : Nat) (S : Value) (h : us[i]? = some (Mill.blV S)) : ∃ a n c, S = .slice a n c := by
  obtain ⟨k, y, h1, h2, _, h3, hf⟩ := Mill.us_at hk i _ h
  unfold Mill.blV at h3
  injection h3 with h4 h5
  have hk21 : k = 21 := by
    by_cases h6 : k = 21
    · exact h6
    · exact absurd h4.symm (Mill.ty_ne h1 h2 (j := 21) (by omega) (by omega) h6)
  subst h5
  obtain ⟨a, n, c, h7⟩ := hf.1 hk21
  injection h7 with h8
  have h9 := congrArg (fun z : Array Value => z[0]?) h8
  simp at h9
  exact ⟨a, n, c, h9⟩
theorem Mill.call_slice {us : List Value} {ks : List Int} (hk : Mill.Kinded us ks) (i : Nat) (nm : ByteArray) (S : Value) (h : us[i]? = some (.iface 134 (.agg #[.string nm, S]))) : ∃ a n c, S = .slice a n c := by
  obtain ⟨k, y, h1, h2, _, h3, hf⟩ := Mill.us_at hk i _ h
  injection h3 with h4 h5
  have hk7 : k = 7 := by
    by_cases h6 : k = 7
    · exact h6
    · exact absurd h4.symm (Mill.ty_ne h1 h2 (j := 7) (by omega) (by omega) h6)
  subst h5
  obtain ⟨nm', a, n, c, h7⟩ := hf.2.1 hk7
  injection h7 with h8
  have h9 := congrArg (fun z : Array Value => z[1]?) h8
  simp at h9
  exact ⟨a, n, c, h9⟩
theorem Mill.if_slice {us : List Value} {ks : List Int} (hk : Mill.Kinded us ks) (i : Nat) (u : Value) (h : us[i]? = some u) : ∃ t y, u = .iface t y := by
  obtain ⟨k, y, _, _, _, h3, _⟩ := Mill.us_at hk i u h
  exact ⟨_, _, h3⟩
theorem pt_1 (o t y : Int) (x : ByteArray) (k : Int) (P : Nat → Prop) (us : List Value) (ks : List Int) (X : Value) (w : World) (_hP : ∀ g, P g → g < w.heap.size) (_hk : Mill.Kinded us ks) (_hl : (23 : Int) ≤ 1 → us.length ≤ 100000) (hI : Mill.Inner P w ⟨1, o, t, y, x, k⟩ us X) :
    Calls Tryz.prog 136 #[X] w fun e w' => Mill.Parts P w ⟨1, o, t, y, x, k⟩ us e w' := by
  unfold Mill.Inner at hI
  simp (decide := true) only [if_true] at hI
  obtain ⟨rfl, rfl⟩ := hI
  exact parts_1 o t y x k P w
theorem pt_2 (o t y : Int) (x : ByteArray) (k : Int) (P : Nat → Prop) (us : List Value) (ks : List Int) (X : Value) (w : World) (_hP : ∀ g, P g → g < w.heap.size) (_hk : Mill.Kinded us ks) (_hl : (23 : Int) ≤ 2 → us.length ≤ 100000) (hI : Mill.Inner P w ⟨2, o, t, y, x, k⟩ us X) :
    Calls Tryz.prog 137 #[X] w fun e w' => Mill.Parts P w ⟨2, o, t, y, x, k⟩ us e w' := by
  unfold Mill.Inner at hI
  simp (decide := true) only [if_false, if_true] at hI
  obtain ⟨rfl, rfl⟩ := hI
  exact parts_2 o t y x k P w
theorem pt_3 (o t y : Int) (x : ByteArray) (k : Int) (P : Nat → Prop) (us : List Value) (ks : List Int) (X : Value) (w : World) (_hP : ∀ g, P g → g < w.heap.size) (_hk : Mill.Kinded us ks) (_hl : (23 : Int) ≤ 3 → us.length ≤ 100000) (hI : Mill.Inner P w ⟨3, o, t, y, x, k⟩ us X) :
    Calls Tryz.prog 138 #[X] w fun e w' => Mill.Parts P w ⟨3, o, t, y, x, k⟩ us e w' := by
  unfold Mill.Inner at hI
  simp (decide := true) only [if_false, if_true] at hI
  obtain ⟨rfl, rfl⟩ := hI
  by_cases hy : y = 1
  · have : (y == 1) = true := by simpa using hy
    simp only [this]
    exact parts_3t o t y x k hy P w
  · have : (y == 1) = false := by simpa using hy
    simp only [this]
    exact parts_3f o t y x k hy P w
theorem pt_4 (o t y : Int) (x : ByteArray) (k : Int) (P : Nat → Prop) (us : List Value) (ks : List Int) (X : Value) (w : World) (_hP : ∀ g, P g → g < w.heap.size) (_hk : Mill.Kinded us ks) (_hl : (23 : Int) ≤ 4 → us.length ≤ 100000) (hI : Mill.Inner P w ⟨4, o, t, y, x, k⟩ us X) :
    Calls Tryz.prog 139 #[X] w fun e w' => Mill.Parts P w ⟨4, o, t, y, x, k⟩ us e w' := by
  unfold Mill.Inner at hI
  simp (decide := true) only [if_false, if_true] at hI
  obtain ⟨rfl, rfl⟩ := hI
  exact parts_4 o t y x k P w
theorem pt_5 (o t y : Int) (x : ByteArray) (k : Int) (P : Nat → Prop) (us : List Value) (ks : List Int) (X : Value) (w : World) (_hP : ∀ g, P g → g < w.heap.size) (hk : Mill.Kinded us ks) (_hl : (23 : Int) ≤ 5 → us.length ≤ 100000) (hI : Mill.Inner P w ⟨5, o, t, y, x, k⟩ us X) :
    Calls Tryz.prog 140 #[X] w fun e w' => Mill.Parts P w ⟨5, o, t, y, x, k⟩ us e w' := by
  unfold Mill.Inner at hI
  simp (decide := true) only [if_false, if_true] at hI
  obtain ⟨u, rfl, rfl⟩ := hI
  obtain ⟨tu, yu, rfl⟩ := Mill.if_slice hk 0 u rfl
  exact parts_5 o t y x k tu yu P w
theorem pt_6 (o t y : Int) (x : ByteArray) (k : Int) (P : Nat → Prop) (us : List Value) (ks : List Int) (X : Value) (w : World) (_hP : ∀ g, P g → g < w.heap.size) (hk : Mill.Kinded us ks) (_hl : (23 : Int) ≤ 6 → us.length ≤ 100000) (hI : Mill.Inner P w ⟨6, o, t, y, x, k⟩ us X) :
    Calls Tryz.prog 141 #[X] w fun e w' => Mill.Parts P w ⟨6, o, t, y, x, k⟩ us e w' := by
  unfold Mill.Inner at hI
  simp (decide := true) only [if_false, if_true] at hI
  obtain ⟨u, v, rfl, rfl⟩ := hI
  obtain ⟨tu, yu, rfl⟩ := Mill.if_slice hk 0 u rfl
  obtain ⟨tv, yv, rfl⟩ := Mill.if_slice hk 1 v rfl
  exact parts_6 o t y x k tu yu tv yv P w
theorem pt_7 (o t y : Int) (x : ByteArray) (k : Int) (P : Nat → Prop) (us : List Value) (ks : List Int) (X : Value) (w : World) (hP : ∀ g, P g → g < w.heap.size) (_hk : Mill.Kinded us ks) (_hl : (23 : Int) ≤ 7 → us.length ≤ 100000) (hI : Mill.Inner P w ⟨7, o, t, y, x, k⟩ us X) :
    Calls Tryz.prog 142 #[X] w fun e w' => Mill.Parts P w ⟨7, o, t, y, x, k⟩ us e w' := by
  unfold Mill.Inner at hI
  simp (decide := true) only [if_false, if_true] at hI
  obtain ⟨S, hS, rfl⟩ := hI
  obtain ⟨a, c, hv, hc⟩ := hS
  subst hv
  exact parts_7 o t y x k a us.length c us P w hP rfl ⟨a, c, rfl, hc⟩
theorem pt_8 (o t y : Int) (x : ByteArray) (k : Int) (P : Nat → Prop) (us : List Value) (ks : List Int) (X : Value) (w : World) (hP : ∀ g, P g → g < w.heap.size) (_hk : Mill.Kinded us ks) (_hl : (23 : Int) ≤ 8 → us.length ≤ 100000) (hI : Mill.Inner P w ⟨8, o, t, y, x, k⟩ us X) :
    Calls Tryz.prog 143 #[X] w fun e w' => Mill.Parts P w ⟨8, o, t, y, x, k⟩ us e w' := by
  unfold Mill.Inner at hI
  simp (decide := true) only [if_false, if_true] at hI
  obtain ⟨S, hS, rfl⟩ := hI
  obtain ⟨a, c, hv, hc⟩ := hS
  subst hv
  exact parts_8 o t y x k a us.length c us P w hP rfl ⟨a, c, rfl, hc⟩
theorem pt_9 (o t y : Int) (x : ByteArray) (k : Int) (P : Nat → Prop) (us : List Value) (ks : List Int) (X : Value) (w : World) (_hP : ∀ g, P g → g < w.heap.size) (hk : Mill.Kinded us ks) (_hl : (23 : Int) ≤ 9 → us.length ≤ 100000) (hI : Mill.Inner P w ⟨9, o, t, y, x, k⟩ us X) :
    Calls Tryz.prog 144 #[X] w fun e w' => Mill.Parts P w ⟨9, o, t, y, x, k⟩ us e w' := by
  unfold Mill.Inner at hI
  simp (decide := true) only [if_false, if_true] at hI
  obtain ⟨u, rfl, rfl⟩ := hI
  obtain ⟨tu, yu, rfl⟩ := Mill.if_slice hk 0 u rfl
  exact parts_9 o t y x k tu yu P w
theorem pt_10 (o t y : Int) (x : ByteArray) (k : Int) (P : Nat → Prop) (us : List Value) (ks : List Int) (X : Value) (w : World) (_hP : ∀ g, P g → g < w.heap.size) (hk : Mill.Kinded us ks) (_hl : (23 : Int) ≤ 10 → us.length ≤ 100000) (hI : Mill.Inner P w ⟨10, o, t, y, x, k⟩ us X) :
    Calls Tryz.prog 145 #[X] w fun e w' => Mill.Parts P w ⟨10, o, t, y, x, k⟩ us e w' := by
  unfold Mill.Inner at hI
  simp (decide := true) only [if_false, if_true] at hI
  obtain ⟨u, rfl, rfl⟩ := hI
  obtain ⟨tu, yu, rfl⟩ := Mill.if_slice hk 0 u rfl
  exact parts_10 o t y x k tu yu P w
theorem pt_11 (o t y : Int) (x : ByteArray) (k : Int) (P : Nat → Prop) (us : List Value) (ks : List Int) (X : Value) (w : World) (_hP : ∀ g, P g → g < w.heap.size) (hk : Mill.Kinded us ks) (_hl : (23 : Int) ≤ 11 → us.length ≤ 100000) (hI : Mill.Inner P w ⟨11, o, t, y, x, k⟩ us X) :
    Calls Tryz.prog 146 #[X] w fun e w' => Mill.Parts P w ⟨11, o, t, y, x, k⟩ us e w' := by
  unfold Mill.Inner at hI
  simp (decide := true) only [if_false, if_true] at hI
  obtain ⟨u, rfl, rfl⟩ := hI
  obtain ⟨tu, yu, rfl⟩ := Mill.if_slice hk 0 u rfl
  exact parts_11 o t y x k tu yu P w
theorem pt_12 (o t y : Int) (x : ByteArray) (k : Int) (P : Nat → Prop) (us : List Value) (ks : List Int) (X : Value) (w : World) (_hP : ∀ g, P g → g < w.heap.size) (hk : Mill.Kinded us ks) (_hl : (23 : Int) ≤ 12 → us.length ≤ 100000) (hI : Mill.Inner P w ⟨12, o, t, y, x, k⟩ us X) :
    Calls Tryz.prog 153 #[X] w fun e w' => Mill.Parts P w ⟨12, o, t, y, x, k⟩ us e w' := by
  unfold Mill.Inner at hI
  simp (decide := true) only [if_false, if_true] at hI
  rcases hI with ⟨u, S, rfl, rfl⟩ | ⟨u, S, tv, yv, rfl, rfl⟩
  · obtain ⟨tu, yu, rfl⟩ := Mill.if_slice hk 0 u rfl
    obtain ⟨sa, sn, sc, rfl⟩ := Mill.bl_slice hk 1 S rfl
    exact parts_12n o t y x k tu yu sa sn sc P w
  · obtain ⟨tu, yu, rfl⟩ := Mill.if_slice hk 0 u rfl
    obtain ⟨sa, sn, sc, rfl⟩ := Mill.bl_slice hk 1 S rfl
    exact parts_12 o t y x k tu yu sa sn sc tv yv P w
theorem pt_13 (o t y : Int) (x : ByteArray) (k : Int) (P : Nat → Prop) (us : List Value) (ks : List Int) (X : Value) (w : World) (_hP : ∀ g, P g → g < w.heap.size) (hk : Mill.Kinded us ks) (_hl : (23 : Int) ≤ 13 → us.length ≤ 100000) (hI : Mill.Inner P w ⟨13, o, t, y, x, k⟩ us X) :
    Calls Tryz.prog 154 #[X] w fun e w' => Mill.Parts P w ⟨13, o, t, y, x, k⟩ us e w' := by
  unfold Mill.Inner at hI
  simp (decide := true) only [if_false, if_true] at hI
  obtain ⟨u, S, rfl, rfl⟩ := hI
  obtain ⟨tu, yu, rfl⟩ := Mill.if_slice hk 0 u rfl
  obtain ⟨sa, sn, sc, rfl⟩ := Mill.bl_slice hk 1 S rfl
  exact parts_13 o t y x k tu yu sa sn sc P w
theorem pt_14 (o t y : Int) (x : ByteArray) (k : Int) (P : Nat → Prop) (us : List Value) (ks : List Int) (X : Value) (w : World) (_hP : ∀ g, P g → g < w.heap.size) (_hk : Mill.Kinded us ks) (_hl : (23 : Int) ≤ 14 → us.length ≤ 100000) (hI : Mill.Inner P w ⟨14, o, t, y, x, k⟩ us X) :
    Calls Tryz.prog 147 #[X] w fun e w' => Mill.Parts P w ⟨14, o, t, y, x, k⟩ us e w' := by
  unfold Mill.Inner at hI
  simp (decide := true) only [if_false, if_true] at hI
  obtain ⟨rfl, rfl⟩ := hI
  exact parts_14 o t y x k P w
theorem pt_15 (o t y : Int) (x : ByteArray) (k : Int) (P : Nat → Prop) (us : List Value) (ks : List Int) (X : Value) (w : World) (_hP : ∀ g, P g → g < w.heap.size) (_hk : Mill.Kinded us ks) (_hl : (23 : Int) ≤ 15 → us.length ≤ 100000) (hI : Mill.Inner P w ⟨15, o, t, y, x, k⟩ us X) :
    Calls Tryz.prog 148 #[X] w fun e w' => Mill.Parts P w ⟨15, o, t, y, x, k⟩ us e w' := by
  unfold Mill.Inner at hI
  simp (decide := true) only [if_false, if_true] at hI
  obtain ⟨rfl, rfl⟩ := hI
  exact parts_15 o t y x k P w
theorem pt_16 (o t y : Int) (x : ByteArray) (k : Int) (P : Nat → Prop) (us : List Value) (ks : List Int) (X : Value) (w : World) (_hP : ∀ g, P g → g < w.heap.size) (_hk : Mill.Kinded us ks) (_hl : (23 : Int) ≤ 16 → us.length ≤ 100000) (hI : Mill.Inner P w ⟨16, o, t, y, x, k⟩ us X) :
    Calls Tryz.prog 149 #[X] w fun e w' => Mill.Parts P w ⟨16, o, t, y, x, k⟩ us e w' := by
  unfold Mill.Inner at hI
  simp (decide := true) only [if_false, if_true] at hI
  rcases hI with ⟨rfl, rfl⟩ | ⟨tu, yu, rfl, rfl⟩
  · exact parts_16n o t y x k P w
  · exact parts_16 o t y x k tu yu P w
theorem pt_17 (o t y : Int) (x : ByteArray) (k : Int) (P : Nat → Prop) (us : List Value) (ks : List Int) (X : Value) (w : World) (_hP : ∀ g, P g → g < w.heap.size) (hk : Mill.Kinded us ks) (_hl : (23 : Int) ≤ 17 → us.length ≤ 100000) (hI : Mill.Inner P w ⟨17, o, t, y, x, k⟩ us X) :
    Calls Tryz.prog 150 #[X] w fun e w' => Mill.Parts P w ⟨17, o, t, y, x, k⟩ us e w' := by
  unfold Mill.Inner at hI
  simp (decide := true) only [if_false, if_true] at hI
  obtain ⟨u, rfl, rfl⟩ := hI
  obtain ⟨tu, yu, rfl⟩ := Mill.if_slice hk 0 u rfl
  exact parts_17 o t y x k tu yu P w
theorem pt_18 (o t y : Int) (x : ByteArray) (k : Int) (P : Nat → Prop) (us : List Value) (ks : List Int) (X : Value) (w : World) (_hP : ∀ g, P g → g < w.heap.size) (hk : Mill.Kinded us ks) (_hl : (23 : Int) ≤ 18 → us.length ≤ 100000) (hI : Mill.Inner P w ⟨18, o, t, y, x, k⟩ us X) :
    Calls Tryz.prog 151 #[X] w fun e w' => Mill.Parts P w ⟨18, o, t, y, x, k⟩ us e w' := by
  unfold Mill.Inner at hI
  simp (decide := true) only [if_false, if_true] at hI
  obtain ⟨u, v, rfl, rfl⟩ := hI
  obtain ⟨tu, yu, rfl⟩ := Mill.if_slice hk 0 u rfl
  obtain ⟨tv, yv, rfl⟩ := Mill.if_slice hk 1 v rfl
  exact parts_18 o t y x k tu yu tv yv P w
theorem pt_19 (o t y : Int) (x : ByteArray) (k : Int) (P : Nat → Prop) (us : List Value) (ks : List Int) (X : Value) (w : World) (_hP : ∀ g, P g → g < w.heap.size) (hk : Mill.Kinded us ks) (_hl : (23 : Int) ≤ 19 → us.length ≤ 100000) (hI : Mill.Inner P w ⟨19, o, t, y, x, k⟩ us X) :
    Calls Tryz.prog 152 #[X] w fun e w' => Mill.Parts P w ⟨19, o, t, y, x, k⟩ us e w' := by
  unfold Mill.Inner at hI
  simp (decide := true) only [if_false, if_true] at hI
  obtain ⟨u, rfl, rfl⟩ := hI
  obtain ⟨tu, yu, rfl⟩ := Mill.if_slice hk 0 u rfl
  exact parts_19 o t y x k tu yu P w
theorem pt_20 (o t y : Int) (x : ByteArray) (k : Int) (P : Nat → Prop) (us : List Value) (ks : List Int) (X : Value) (w : World) (_hP : ∀ g, P g → g < w.heap.size) (hk : Mill.Kinded us ks) (_hl : (23 : Int) ≤ 20 → us.length ≤ 100000) (hI : Mill.Inner P w ⟨20, o, t, y, x, k⟩ us X) :
    Calls Tryz.prog 155 #[X] w fun e w' => Mill.Parts P w ⟨20, o, t, y, x, k⟩ us e w' := by
  unfold Mill.Inner at hI
  simp (decide := true) only [if_false, if_true] at hI
  obtain ⟨nm, S, rfl, rfl⟩ := hI
  obtain ⟨sa, sn, sc, rfl⟩ := Mill.call_slice hk 0 nm S rfl
  exact parts_20 o t y x k nm sa sn sc P w
theorem pt_21 (o t y : Int) (x : ByteArray) (k : Int) (P : Nat → Prop) (us : List Value) (ks : List Int) (X : Value) (w : World) (hP : ∀ g, P g → g < w.heap.size) (_hk : Mill.Kinded us ks) (_hl : (23 : Int) ≤ 21 → us.length ≤ 100000) (hI : Mill.Inner P w ⟨21, o, t, y, x, k⟩ us X) :
    Calls Tryz.prog 133 #[X] w fun e w' => Mill.Parts P w ⟨21, o, t, y, x, k⟩ us e w' := by
  unfold Mill.Inner at hI
  simp (decide := true) only [if_false, if_true] at hI
  obtain ⟨S, hS, rfl⟩ := hI
  obtain ⟨a, c, hv, hc⟩ := hS
  subst hv
  exact parts_21 o t y x k a us.length c us P w hP rfl ⟨a, c, rfl, hc⟩
theorem pt_22 (o t y : Int) (x : ByteArray) (k : Int) (P : Nat → Prop) (us : List Value) (ks : List Int) (X : Value) (w : World) (_hP : ∀ g, P g → g < w.heap.size) (_hk : Mill.Kinded us ks) (_hl : (23 : Int) ≤ 22 → us.length ≤ 100000) (hI : Mill.Inner P w ⟨22, o, t, y, x, k⟩ us X) :
    Calls Tryz.prog 135 #[X] w fun e w' => Mill.Parts P w ⟨22, o, t, y, x, k⟩ us e w' := by
  unfold Mill.Inner at hI
  simp (decide := true) only [if_false, if_true] at hI
  obtain ⟨rfl, rfl⟩ := hI
  exact parts_22 o t y x k P w
theorem pt_23 (o t y : Int) (x : ByteArray) (k : Int) (P : Nat → Prop) (us : List Value) (ks : List Int) (X : Value) (w : World) (hP : ∀ g, P g → g < w.heap.size) (hk : Mill.Kinded us ks) (hl : (23 : Int) ≤ 23 → us.length ≤ 100000) (hI : Mill.Inner P w ⟨23, o, t, y, x, k⟩ us X) :
    Calls Tryz.prog 134 #[X] w fun e w' => Mill.Parts P w ⟨23, o, t, y, x, k⟩ us e w' := by
  have hl := hl (by decide)
  unfold Mill.Inner at hI
  simp (decide := true) only [if_false, if_true] at hI
  obtain ⟨ps, SP, SB, rfl, hS, rfl⟩ := hI
  obtain ⟨sa, sn, sc, rfl⟩ := Mill.bl_slice hk ps.length SB (by simp)
  obtain ⟨a, c, hv, hc⟩ := hS
  subst hv
  exact parts_23 o t y x k a ps.length c sa sn sc ps P w hP rfl (by simp at hl; omega) ⟨a, c, rfl, hc⟩
theorem pt_24 (o t y : Int) (x : ByteArray) (k : Int) (P : Nat → Prop) (us : List Value) (ks : List Int) (X : Value) (w : World) (hP : ∀ g, P g → g < w.heap.size) (_hk : Mill.Kinded us ks) (hl : (23 : Int) ≤ 24 → us.length ≤ 100000) (hI : Mill.Inner P w ⟨24, o, t, y, x, k⟩ us X) :
    Calls Tryz.prog 130 #[X] w fun e w' => Mill.Parts P w ⟨24, o, t, y, x, k⟩ us e w' := by
  have hl := hl (by decide)
  unfold Mill.Inner at hI
  simp (decide := true) only [if_false] at hI
  obtain ⟨fs, SF, rfl, hS, rfl⟩ := hI
  obtain ⟨a, c, hv, hc⟩ := hS
  subst hv
  exact parts_24 o t y x k a fs.length c fs P w hP rfl (by simpa using hl) ⟨a, c, rfl, hc⟩

end Go.Proofs.YtkaoeoeloihigaaGreatDoor
