import Derived.Test.YtlcckaffhnjneaaGreatDoorKTreeT
set_option maxRecDepth 100000
set_option maxHeartbeats 1000000
namespace Go.Proofs.YtlcckaffhnjneaaGreatDoor
open Go.RowKit
def Mill.ndEq (a b:Mill.Nd):Bool:=(a.kind == b.kind) && (a.op == b.op) && (a.type == b.type) && (a.n == b.n) && (a.text.toList == b.text.toList) && (a.kids == b.kids)
theorem Tryz.meth_intNode (v:Value) (w:World):(method 345 156 v "loop.example/kilnmill/impl.parts").run Tryz.prog w = .ok (184,v) w:=by kernel_rfl
theorem Tryz.meth_textNode (v:Value) (w:World):(method 345 158 v "loop.example/kilnmill/impl.parts").run Tryz.prog w = .ok (185,v) w:=by kernel_rfl
theorem Tryz.meth_boolNode (v:Value) (w:World):(method 345 160 v "loop.example/kilnmill/impl.parts").run Tryz.prog w = .ok (186,v) w:=by kernel_rfl
theorem Tryz.meth_nameNode (v:Value) (w:World):(method 345 162 v "loop.example/kilnmill/impl.parts").run Tryz.prog w = .ok (187,v) w:=by kernel_rfl
theorem Tryz.meth_unNode (v:Value) (w:World):(method 345 164 v "loop.example/kilnmill/impl.parts").run Tryz.prog w = .ok (188,v) w:=by kernel_rfl
theorem Tryz.meth_binNode (v:Value) (w:World):(method 345 166 v "loop.example/kilnmill/impl.parts").run Tryz.prog w = .ok (189,v) w:=by kernel_rfl
theorem Tryz.meth_callNode (v:Value) (w:World):(method 345 168 v "loop.example/kilnmill/impl.parts").run Tryz.prog w = .ok (190,v) w:=by kernel_rfl
theorem Tryz.meth_builtNode (v:Value) (w:World):(method 345 173 v "loop.example/kilnmill/impl.parts").run Tryz.prog w = .ok (191,v) w:=by kernel_rfl
theorem Tryz.meth_convNode (v:Value) (w:World):(method 345 175 v "loop.example/kilnmill/impl.parts").run Tryz.prog w = .ok (192,v) w:=by kernel_rfl
theorem Tryz.meth_letNode (v:Value) (w:World):(method 345 177 v "loop.example/kilnmill/impl.parts").run Tryz.prog w = .ok (193,v) w:=by kernel_rfl
theorem Tryz.meth_setNode (v:Value) (w:World):(method 345 178 v "loop.example/kilnmill/impl.parts").run Tryz.prog w = .ok (194,v) w:=by kernel_rfl
theorem Tryz.meth_ifNode (v:Value) (w:World):(method 345 151 v "loop.example/kilnmill/impl.parts").run Tryz.prog w = .ok (182,v) w:=by kernel_rfl
theorem Tryz.meth_whileNode (v:Value) (w:World):(method 345 154 v "loop.example/kilnmill/impl.parts").run Tryz.prog w = .ok (183,v) w:=by kernel_rfl
theorem Tryz.meth_breakNode (v:Value) (w:World):(method 345 180 v "loop.example/kilnmill/impl.parts").run Tryz.prog w = .ok (195,v) w:=by kernel_rfl
theorem Tryz.meth_continueNode (v:Value) (w:World):(method 345 181 v "loop.example/kilnmill/impl.parts").run Tryz.prog w = .ok (196,v) w:=by kernel_rfl
theorem Tryz.meth_returnNode (v:Value) (w:World):(method 345 183 v "loop.example/kilnmill/impl.parts").run Tryz.prog w = .ok (197,v) w:=by kernel_rfl
theorem Tryz.meth_failNode (v:Value) (w:World):(method 345 185 v "loop.example/kilnmill/impl.parts").run Tryz.prog w = .ok (198,v) w:=by kernel_rfl
theorem Tryz.meth_writeNode (v:Value) (w:World):(method 345 187 v "loop.example/kilnmill/impl.parts").run Tryz.prog w = .ok (199,v) w:=by kernel_rfl
theorem Tryz.meth_sayNode (v:Value) (w:World):(method 345 188 v "loop.example/kilnmill/impl.parts").run Tryz.prog w = .ok (200,v) w:=by kernel_rfl
theorem Tryz.meth_doNode (v:Value) (w:World):(method 345 190 v "loop.example/kilnmill/impl.parts").run Tryz.prog w = .ok (201,v) w:=by kernel_rfl
theorem Tryz.meth_blockNode (v:Value) (w:World):(method 345 77 v "loop.example/kilnmill/impl.parts").run Tryz.prog w = .ok (178,v) w:=by kernel_rfl
theorem Tryz.meth_paramNode (v:Value) (w:World):(method 345 135 v "loop.example/kilnmill/impl.parts").run Tryz.prog w = .ok (180,v) w:=by kernel_rfl
theorem Tryz.meth_fnNode (v:Value) (w:World):(method 345 79 v "loop.example/kilnmill/impl.parts").run Tryz.prog w = .ok (179,v) w:=by kernel_rfl
theorem Tryz.meth_programNode (v:Value) (w:World):(method 345 51 v "loop.example/kilnmill/impl.parts").run Tryz.prog w = .ok (176,v) w:=by kernel_rfl
theorem Mill.bl_slice {us:List Value} {ks:List Int} (hk:Mill.Kinded us ks) (i:Nat) (S:Value) (h:us[i]? = some (Mill.blV S)):∃ a n c,S = .slice a n c:=by
 obtain ⟨k,y,h1,h2,_,h3,hf⟩:=Mill.us_at hk i _ h
 unfold Mill.blV at h3
 injection h3 with h4 h5
 have hk21:k=21:=by
  by_cases h6:k=21
  ·exact h6
  ·exact absurd h4.symm (Mill.ty_ne h1 h2 (j:=21) (by omega) (by omega) h6)
 subst h5
 obtain ⟨a,n,c,h7⟩:=hf.1 hk21
 injection h7 with h8
 have h9:=congrArg (fun z:Array Value=>z[0]?) h8
 simp at h9
 exact ⟨a,n,c,h9⟩
theorem Mill.call_slice {us:List Value} {ks:List Int} (hk:Mill.Kinded us ks) (i:Nat) (nm:ByteArray) (S:Value) (h:us[i]? = some (.iface 168 (.agg #[.string nm,S]))):∃ a n c,S = .slice a n c:=by
 obtain ⟨k,y,h1,h2,_,h3,hf⟩:=Mill.us_at hk i _ h
 injection h3 with h4 h5
 have hk7:k=7:=by
  by_cases h6:k=7
  ·exact h6
  ·exact absurd h4.symm (Mill.ty_ne h1 h2 (j:=7) (by omega) (by omega) h6)
 subst h5
 obtain ⟨nm',a,n,c,h7⟩:=hf.2.1 hk7
 injection h7 with h8
 have h9:=congrArg (fun z:Array Value=>z[1]?) h8
 simp at h9
 exact ⟨a,n,c,h9⟩
theorem Mill.if_slice {us:List Value} {ks:List Int} (hk:Mill.Kinded us ks) (i:Nat) (u:Value) (h:us[i]? = some u):∃ t y,u = .iface t y:=by
 obtain ⟨k,y,_,_,_,h3,_⟩:=Mill.us_at hk i u h
 exact ⟨_,_,h3⟩
theorem pt_1 (o t y:Int) (x:ByteArray) (k:Int) (P:Nat→Prop) (us:List Value) (ks:List Int) (X:Value) (w:World) (_hP:∀ g,P g→g < w.heap.size) (_hk:Mill.Kinded us ks) (_hl:(23:Int)≤1→us.length≤100000) (hI:Mill.Inner P w ⟨1,o,t,y,x,k⟩ us X) :
  Calls Tryz.prog 184 #[X] w fun e w'=>Mill.Parts P w ⟨1,o,t,y,x,k⟩ us e w':=by
 unfold Mill.Inner at hI
 simp (decide:=true) only [if_true] at hI
 obtain ⟨rfl,rfl⟩:=hI
 exact parts_1 o t y x k P w
theorem pt_2 (o t y:Int) (x:ByteArray) (k:Int) (P:Nat→Prop) (us:List Value) (ks:List Int) (X:Value) (w:World) (_hP:∀ g,P g→g < w.heap.size) (_hk:Mill.Kinded us ks) (_hl:(23:Int)≤2→us.length≤100000) (hI:Mill.Inner P w ⟨2,o,t,y,x,k⟩ us X) :
  Calls Tryz.prog 185 #[X] w fun e w'=>Mill.Parts P w ⟨2,o,t,y,x,k⟩ us e w':=by
 unfold Mill.Inner at hI
 simp (decide:=true) only [if_false,if_true] at hI
 obtain ⟨rfl,rfl⟩:=hI
 exact parts_2 o t y x k P w
theorem pt_3 (o t y:Int) (x:ByteArray) (k:Int) (P:Nat→Prop) (us:List Value) (ks:List Int) (X:Value) (w:World) (_hP:∀ g,P g→g < w.heap.size) (_hk:Mill.Kinded us ks) (_hl:(23:Int)≤3→us.length≤100000) (hI:Mill.Inner P w ⟨3,o,t,y,x,k⟩ us X) :
  Calls Tryz.prog 186 #[X] w fun e w'=>Mill.Parts P w ⟨3,o,t,y,x,k⟩ us e w':=by
 unfold Mill.Inner at hI
 simp (decide:=true) only [if_false,if_true] at hI
 obtain ⟨rfl,rfl⟩:=hI
 by_cases hy:y=1
 ·have:(y == 1)=true:=by simpa using hy
  simp only [this]
  exact parts_3t o t y x k hy P w
 ·have:(y == 1)=false:=by simpa using hy
  simp only [this]
  exact parts_3f o t y x k hy P w
theorem pt_4 (o t y:Int) (x:ByteArray) (k:Int) (P:Nat→Prop) (us:List Value) (ks:List Int) (X:Value) (w:World) (_hP:∀ g,P g→g < w.heap.size) (_hk:Mill.Kinded us ks) (_hl:(23:Int)≤4→us.length≤100000) (hI:Mill.Inner P w ⟨4,o,t,y,x,k⟩ us X) :
  Calls Tryz.prog 187 #[X] w fun e w'=>Mill.Parts P w ⟨4,o,t,y,x,k⟩ us e w':=by
 unfold Mill.Inner at hI
 simp (decide:=true) only [if_false,if_true] at hI
 obtain ⟨rfl,rfl⟩:=hI
 exact parts_4 o t y x k P w
theorem pt_5 (o t y:Int) (x:ByteArray) (k:Int) (P:Nat→Prop) (us:List Value) (ks:List Int) (X:Value) (w:World) (_hP:∀ g,P g→g < w.heap.size) (hk:Mill.Kinded us ks) (_hl:(23:Int)≤5→us.length≤100000) (hI:Mill.Inner P w ⟨5,o,t,y,x,k⟩ us X) :
  Calls Tryz.prog 188 #[X] w fun e w'=>Mill.Parts P w ⟨5,o,t,y,x,k⟩ us e w':=by
 unfold Mill.Inner at hI
 simp (decide:=true) only [if_false,if_true] at hI
 obtain ⟨u,rfl,rfl⟩:=hI
 obtain ⟨tu,yu,rfl⟩:=Mill.if_slice hk 0 u rfl
 exact parts_5 o t y x k tu yu P w
theorem pt_6 (o t y:Int) (x:ByteArray) (k:Int) (P:Nat→Prop) (us:List Value) (ks:List Int) (X:Value) (w:World) (_hP:∀ g,P g→g < w.heap.size) (hk:Mill.Kinded us ks) (_hl:(23:Int)≤6→us.length≤100000) (hI:Mill.Inner P w ⟨6,o,t,y,x,k⟩ us X) :
  Calls Tryz.prog 189 #[X] w fun e w'=>Mill.Parts P w ⟨6,o,t,y,x,k⟩ us e w':=by
 unfold Mill.Inner at hI
 simp (decide:=true) only [if_false,if_true] at hI
 obtain ⟨u,v,rfl,rfl⟩:=hI
 obtain ⟨tu,yu,rfl⟩:=Mill.if_slice hk 0 u rfl
 obtain ⟨tv,yv,rfl⟩:=Mill.if_slice hk 1 v rfl
 exact parts_6 o t y x k tu yu tv yv P w
theorem pt_7 (o t y:Int) (x:ByteArray) (k:Int) (P:Nat→Prop) (us:List Value) (ks:List Int) (X:Value) (w:World) (hP:∀ g,P g→g < w.heap.size) (_hk:Mill.Kinded us ks) (_hl:(23:Int)≤7→us.length≤100000) (hI:Mill.Inner P w ⟨7,o,t,y,x,k⟩ us X) :
  Calls Tryz.prog 190 #[X] w fun e w'=>Mill.Parts P w ⟨7,o,t,y,x,k⟩ us e w':=by
 unfold Mill.Inner at hI
 simp (decide:=true) only [if_false,if_true] at hI
 obtain ⟨S,hS,rfl⟩:=hI
 obtain ⟨a,c,hv,hc⟩:=hS
 subst hv
 exact parts_7 o t y x k a us.length c us P w hP rfl ⟨a,c,rfl,hc⟩
theorem pt_8 (o t y:Int) (x:ByteArray) (k:Int) (P:Nat→Prop) (us:List Value) (ks:List Int) (X:Value) (w:World) (hP:∀ g,P g→g < w.heap.size) (_hk:Mill.Kinded us ks) (_hl:(23:Int)≤8→us.length≤100000) (hI:Mill.Inner P w ⟨8,o,t,y,x,k⟩ us X) :
  Calls Tryz.prog 191 #[X] w fun e w'=>Mill.Parts P w ⟨8,o,t,y,x,k⟩ us e w':=by
 unfold Mill.Inner at hI
 simp (decide:=true) only [if_false,if_true] at hI
 obtain ⟨S,hS,rfl⟩:=hI
 obtain ⟨a,c,hv,hc⟩:=hS
 subst hv
 exact parts_8 o t y x k a us.length c us P w hP rfl ⟨a,c,rfl,hc⟩
theorem pt_9 (o t y:Int) (x:ByteArray) (k:Int) (P:Nat→Prop) (us:List Value) (ks:List Int) (X:Value) (w:World) (_hP:∀ g,P g→g < w.heap.size) (hk:Mill.Kinded us ks) (_hl:(23:Int)≤9→us.length≤100000) (hI:Mill.Inner P w ⟨9,o,t,y,x,k⟩ us X) :
  Calls Tryz.prog 192 #[X] w fun e w'=>Mill.Parts P w ⟨9,o,t,y,x,k⟩ us e w':=by
 unfold Mill.Inner at hI
 simp (decide:=true) only [if_false,if_true] at hI
 obtain ⟨u,rfl,rfl⟩:=hI
 obtain ⟨tu,yu,rfl⟩:=Mill.if_slice hk 0 u rfl
 exact parts_9 o t y x k tu yu P w
theorem pt_10 (o t y:Int) (x:ByteArray) (k:Int) (P:Nat→Prop) (us:List Value) (ks:List Int) (X:Value) (w:World) (_hP:∀ g,P g→g < w.heap.size) (hk:Mill.Kinded us ks) (_hl:(23:Int)≤10→us.length≤100000) (hI:Mill.Inner P w ⟨10,o,t,y,x,k⟩ us X) :
  Calls Tryz.prog 193 #[X] w fun e w'=>Mill.Parts P w ⟨10,o,t,y,x,k⟩ us e w':=by
 unfold Mill.Inner at hI
 simp (decide:=true) only [if_false,if_true] at hI
 obtain ⟨u,rfl,rfl⟩:=hI
 obtain ⟨tu,yu,rfl⟩:=Mill.if_slice hk 0 u rfl
 exact parts_10 o t y x k tu yu P w
theorem pt_11 (o t y:Int) (x:ByteArray) (k:Int) (P:Nat→Prop) (us:List Value) (ks:List Int) (X:Value) (w:World) (_hP:∀ g,P g→g < w.heap.size) (hk:Mill.Kinded us ks) (_hl:(23:Int)≤11→us.length≤100000) (hI:Mill.Inner P w ⟨11,o,t,y,x,k⟩ us X) :
  Calls Tryz.prog 194 #[X] w fun e w'=>Mill.Parts P w ⟨11,o,t,y,x,k⟩ us e w':=by
 unfold Mill.Inner at hI
 simp (decide:=true) only [if_false,if_true] at hI
 obtain ⟨u,rfl,rfl⟩:=hI
 obtain ⟨tu,yu,rfl⟩:=Mill.if_slice hk 0 u rfl
 exact parts_11 o t y x k tu yu P w
theorem pt_12 (o t y:Int) (x:ByteArray) (k:Int) (P:Nat→Prop) (us:List Value) (ks:List Int) (X:Value) (w:World) (_hP:∀ g,P g→g < w.heap.size) (hk:Mill.Kinded us ks) (_hl:(23:Int)≤12→us.length≤100000) (hI:Mill.Inner P w ⟨12,o,t,y,x,k⟩ us X) :
  Calls Tryz.prog 182 #[X] w fun e w'=>Mill.Parts P w ⟨12,o,t,y,x,k⟩ us e w':=by
 unfold Mill.Inner at hI
 simp (decide:=true) only [if_false,if_true] at hI
 rcases hI with ⟨u,S,rfl,rfl⟩ | ⟨u,S,tv,yv,rfl,rfl⟩
 ·obtain ⟨tu,yu,rfl⟩:=Mill.if_slice hk 0 u rfl
  obtain ⟨sa,sn,sc,rfl⟩:=Mill.bl_slice hk 1 S rfl
  exact parts_12n o t y x k tu yu sa sn sc P w
 ·obtain ⟨tu,yu,rfl⟩:=Mill.if_slice hk 0 u rfl
  obtain ⟨sa,sn,sc,rfl⟩:=Mill.bl_slice hk 1 S rfl
  exact parts_12 o t y x k tu yu sa sn sc tv yv P w
theorem pt_13 (o t y:Int) (x:ByteArray) (k:Int) (P:Nat→Prop) (us:List Value) (ks:List Int) (X:Value) (w:World) (_hP:∀ g,P g→g < w.heap.size) (hk:Mill.Kinded us ks) (_hl:(23:Int)≤13→us.length≤100000) (hI:Mill.Inner P w ⟨13,o,t,y,x,k⟩ us X) :
  Calls Tryz.prog 183 #[X] w fun e w'=>Mill.Parts P w ⟨13,o,t,y,x,k⟩ us e w':=by
 unfold Mill.Inner at hI
 simp (decide:=true) only [if_false,if_true] at hI
 obtain ⟨u,S,rfl,rfl⟩:=hI
 obtain ⟨tu,yu,rfl⟩:=Mill.if_slice hk 0 u rfl
 obtain ⟨sa,sn,sc,rfl⟩:=Mill.bl_slice hk 1 S rfl
 exact parts_13 o t y x k tu yu sa sn sc P w
theorem pt_14 (o t y:Int) (x:ByteArray) (k:Int) (P:Nat→Prop) (us:List Value) (ks:List Int) (X:Value) (w:World) (_hP:∀ g,P g→g < w.heap.size) (_hk:Mill.Kinded us ks) (_hl:(23:Int)≤14→us.length≤100000) (hI:Mill.Inner P w ⟨14,o,t,y,x,k⟩ us X) :
  Calls Tryz.prog 195 #[X] w fun e w'=>Mill.Parts P w ⟨14,o,t,y,x,k⟩ us e w':=by
 unfold Mill.Inner at hI
 simp (decide:=true) only [if_false,if_true] at hI
 obtain ⟨rfl,rfl⟩:=hI
 exact parts_14 o t y x k P w
theorem pt_15 (o t y:Int) (x:ByteArray) (k:Int) (P:Nat→Prop) (us:List Value) (ks:List Int) (X:Value) (w:World) (_hP:∀ g,P g→g < w.heap.size) (_hk:Mill.Kinded us ks) (_hl:(23:Int)≤15→us.length≤100000) (hI:Mill.Inner P w ⟨15,o,t,y,x,k⟩ us X) :
  Calls Tryz.prog 196 #[X] w fun e w'=>Mill.Parts P w ⟨15,o,t,y,x,k⟩ us e w':=by
 unfold Mill.Inner at hI
 simp (decide:=true) only [if_false,if_true] at hI
 obtain ⟨rfl,rfl⟩:=hI
 exact parts_15 o t y x k P w
theorem pt_16 (o t y:Int) (x:ByteArray) (k:Int) (P:Nat→Prop) (us:List Value) (ks:List Int) (X:Value) (w:World) (_hP:∀ g,P g→g < w.heap.size) (_hk:Mill.Kinded us ks) (_hl:(23:Int)≤16→us.length≤100000) (hI:Mill.Inner P w ⟨16,o,t,y,x,k⟩ us X) :
  Calls Tryz.prog 197 #[X] w fun e w'=>Mill.Parts P w ⟨16,o,t,y,x,k⟩ us e w':=by
 unfold Mill.Inner at hI
 simp (decide:=true) only [if_false,if_true] at hI
 rcases hI with ⟨rfl,rfl⟩ | ⟨tu,yu,rfl,rfl⟩
 ·exact parts_16n o t y x k P w
 ·exact parts_16 o t y x k tu yu P w
theorem pt_17 (o t y:Int) (x:ByteArray) (k:Int) (P:Nat→Prop) (us:List Value) (ks:List Int) (X:Value) (w:World) (_hP:∀ g,P g→g < w.heap.size) (hk:Mill.Kinded us ks) (_hl:(23:Int)≤17→us.length≤100000) (hI:Mill.Inner P w ⟨17,o,t,y,x,k⟩ us X) :
  Calls Tryz.prog 198 #[X] w fun e w'=>Mill.Parts P w ⟨17,o,t,y,x,k⟩ us e w':=by
 unfold Mill.Inner at hI
 simp (decide:=true) only [if_false,if_true] at hI
 obtain ⟨u,rfl,rfl⟩:=hI
 obtain ⟨tu,yu,rfl⟩:=Mill.if_slice hk 0 u rfl
 exact parts_17 o t y x k tu yu P w
theorem pt_18 (o t y:Int) (x:ByteArray) (k:Int) (P:Nat→Prop) (us:List Value) (ks:List Int) (X:Value) (w:World) (_hP:∀ g,P g→g < w.heap.size) (hk:Mill.Kinded us ks) (_hl:(23:Int)≤18→us.length≤100000) (hI:Mill.Inner P w ⟨18,o,t,y,x,k⟩ us X) :
  Calls Tryz.prog 199 #[X] w fun e w'=>Mill.Parts P w ⟨18,o,t,y,x,k⟩ us e w':=by
 unfold Mill.Inner at hI
 simp (decide:=true) only [if_false,if_true] at hI
 obtain ⟨u,v,rfl,rfl⟩:=hI
 obtain ⟨tu,yu,rfl⟩:=Mill.if_slice hk 0 u rfl
 obtain ⟨tv,yv,rfl⟩:=Mill.if_slice hk 1 v rfl
 exact parts_18 o t y x k tu yu tv yv P w
theorem pt_19 (o t y:Int) (x:ByteArray) (k:Int) (P:Nat→Prop) (us:List Value) (ks:List Int) (X:Value) (w:World) (_hP:∀ g,P g→g < w.heap.size) (hk:Mill.Kinded us ks) (_hl:(23:Int)≤19→us.length≤100000) (hI:Mill.Inner P w ⟨19,o,t,y,x,k⟩ us X) :
  Calls Tryz.prog 200 #[X] w fun e w'=>Mill.Parts P w ⟨19,o,t,y,x,k⟩ us e w':=by
 unfold Mill.Inner at hI
 simp (decide:=true) only [if_false,if_true] at hI
 obtain ⟨u,rfl,rfl⟩:=hI
 obtain ⟨tu,yu,rfl⟩:=Mill.if_slice hk 0 u rfl
 exact parts_19 o t y x k tu yu P w
theorem pt_20 (o t y:Int) (x:ByteArray) (k:Int) (P:Nat→Prop) (us:List Value) (ks:List Int) (X:Value) (w:World) (_hP:∀ g,P g→g < w.heap.size) (hk:Mill.Kinded us ks) (_hl:(23:Int)≤20→us.length≤100000) (hI:Mill.Inner P w ⟨20,o,t,y,x,k⟩ us X) :
  Calls Tryz.prog 201 #[X] w fun e w'=>Mill.Parts P w ⟨20,o,t,y,x,k⟩ us e w':=by
 unfold Mill.Inner at hI
 simp (decide:=true) only [if_false,if_true] at hI
 obtain ⟨nm,S,rfl,rfl⟩:=hI
 obtain ⟨sa,sn,sc,rfl⟩:=Mill.call_slice hk 0 nm S rfl
 exact parts_20 o t y x k nm sa sn sc P w
theorem pt_21 (o t y:Int) (x:ByteArray) (k:Int) (P:Nat→Prop) (us:List Value) (ks:List Int) (X:Value) (w:World) (hP:∀ g,P g→g < w.heap.size) (_hk:Mill.Kinded us ks) (_hl:(23:Int)≤21→us.length≤100000) (hI:Mill.Inner P w ⟨21,o,t,y,x,k⟩ us X) :
  Calls Tryz.prog 178 #[X] w fun e w'=>Mill.Parts P w ⟨21,o,t,y,x,k⟩ us e w':=by
 unfold Mill.Inner at hI
 simp (decide:=true) only [if_false,if_true] at hI
 obtain ⟨S,hS,rfl⟩:=hI
 obtain ⟨a,c,hv,hc⟩:=hS
 subst hv
 exact parts_21 o t y x k a us.length c us P w hP rfl ⟨a,c,rfl,hc⟩
theorem pt_22 (o t y:Int) (x:ByteArray) (k:Int) (P:Nat→Prop) (us:List Value) (ks:List Int) (X:Value) (w:World) (_hP:∀ g,P g→g < w.heap.size) (_hk:Mill.Kinded us ks) (_hl:(23:Int)≤22→us.length≤100000) (hI:Mill.Inner P w ⟨22,o,t,y,x,k⟩ us X) :
  Calls Tryz.prog 180 #[X] w fun e w'=>Mill.Parts P w ⟨22,o,t,y,x,k⟩ us e w':=by
 unfold Mill.Inner at hI
 simp (decide:=true) only [if_false,if_true] at hI
 obtain ⟨rfl,rfl⟩:=hI
 exact parts_22 o t y x k P w
theorem pt_23 (o t y:Int) (x:ByteArray) (k:Int) (P:Nat→Prop) (us:List Value) (ks:List Int) (X:Value) (w:World) (hP:∀ g,P g→g < w.heap.size) (hk:Mill.Kinded us ks) (hl:(23:Int)≤23→us.length≤100000) (hI:Mill.Inner P w ⟨23,o,t,y,x,k⟩ us X) :
  Calls Tryz.prog 179 #[X] w fun e w'=>Mill.Parts P w ⟨23,o,t,y,x,k⟩ us e w':=by
 have hl:=hl (by decide)
 unfold Mill.Inner at hI
 simp (decide:=true) only [if_false,if_true] at hI
 obtain ⟨ps,SP,SB,rfl,hS,rfl⟩:=hI
 obtain ⟨sa,sn,sc,rfl⟩:=Mill.bl_slice hk ps.length SB (by simp)
 obtain ⟨a,c,hv,hc⟩:=hS
 subst hv
 exact parts_23 o t y x k a ps.length c sa sn sc ps P w hP rfl (by simp at hl;omega) ⟨a,c,rfl,hc⟩
theorem pt_24 (o t y:Int) (x:ByteArray) (k:Int) (P:Nat→Prop) (us:List Value) (ks:List Int) (X:Value) (w:World) (hP:∀ g,P g→g < w.heap.size) (_hk:Mill.Kinded us ks) (hl:(23:Int)≤24→us.length≤100000) (hI:Mill.Inner P w ⟨24,o,t,y,x,k⟩ us X) :
  Calls Tryz.prog 176 #[X] w fun e w'=>Mill.Parts P w ⟨24,o,t,y,x,k⟩ us e w':=by
 have hl:=hl (by decide)
 unfold Mill.Inner at hI
 simp (decide:=true) only [if_false] at hI
 obtain ⟨fs,SF,rfl,hS,rfl⟩:=hI
 obtain ⟨a,c,hv,hc⟩:=hS
 subst hv
 exact parts_24 o t y x k a fs.length c fs P w hP rfl (by simpa using hl) ⟨a,c,rfl,hc⟩
mutual
def Mill.Rep (P:Nat→Prop) (w:World):Mill.Tr→Value→Prop
 | .node d ks,v => ∃ us,Mill.Shape P w d us v∧Mill.Kinded us (ks.map (fun t=>t.nd.kind))∧(23≤d.kind→us.length≤100000)∧us.length≤100000∧Mill.Reps P w ks us
def Mill.Reps (P:Nat→Prop) (w:World):List Mill.Tr→List Value→Prop
 | [],us=>us=[]
 | t::r,us => ∃ u us',us=u::us'∧Mill.Rep P w t u∧Mill.Reps P w r us'
end
theorem Mill.Reps.len {P:Nat→Prop} {w:World}:∀ (ts:List Mill.Tr) (us:List Value),Mill.Reps P w ts us→us.length=ts.length
 | [],us,h=>by rw [Mill.Reps] at h;rw [h];rfl
 | t::r,us,h=>by
  rw [Mill.Reps] at h
  obtain ⟨u,us',rfl,_,h2⟩:=h
  have:=Mill.Reps.len r us' h2
  simp [this]
theorem Mill.Reps.at {P:Nat→Prop} {w:World}:∀ (ts:List Mill.Tr) (us:List Value),Mill.Reps P w ts us→∀ i (h:i < ts.length),∃ u,us[i]? = some u∧Mill.Rep P w ts[i] u
 | [],us,h,i,hi=>by simp at hi
 | t::r,us,h,i,hi=>by
  rw [Mill.Reps] at h
  obtain ⟨u,us',rfl,h1,h2⟩:=h
  cases i with
  | zero=>exact ⟨u,rfl,h1⟩
  | succ i=>exact Mill.Reps.at r us' h2 i (by simpa using hi)
theorem Mill.highs_at : ∀ (ts:List Mill.Tr) (i:Nat) (h:i < ts.length),ts[i].high+1≤Mill.Tr.highs ts
 | t::r,0,_=>by rw [Mill.Tr.highs];simp only [List.getElem_cons_zero];omega
 | t::r,i+1,h=>by
  rw [Mill.Tr.highs]
  have:=Mill.highs_at r i (by simpa using h)
  simp only [List.getElem_cons_succ]
  omega
theorem Mill.highs_app : ∀ (a b:List Mill.Tr),Mill.Tr.highs (a++b)=max (Mill.Tr.highs a) (Mill.Tr.highs b)
 | [],b=>by simp [Mill.Tr.highs]
 | t::r,b=>by
  rw [List.cons_append,Mill.Tr.highs,Mill.Tr.highs,Mill.highs_app r b];omega
mutual
theorem Mill.Rep.below {P Q:Nat→Prop} {w w':World} (hQ:∀ g,P g→Q g) (hc:∀ g,P g→w'.heap[g]? = w.heap[g]?):∀ (t:Mill.Tr) (v:Value),Mill.Rep P w t v→Mill.Rep Q w' t v
 | .node d ks,v,h=>by
  rw [Mill.Rep] at h ⊢
  obtain ⟨us,h1,h2,h3,h4,h5⟩:=h
  exact ⟨us,h1.below hQ hc,h2,h3,h4,Mill.Reps.below hQ hc ks us h5⟩
theorem Mill.Reps.below {P Q:Nat→Prop} {w w':World} (hQ:∀ g,P g→Q g) (hc:∀ g,P g→w'.heap[g]? = w.heap[g]?):∀ (ts:List Mill.Tr) (us:List Value),Mill.Reps P w ts us→Mill.Reps Q w' ts us
 | [],us,h=>by rw [Mill.Reps] at h ⊢;exact h
 | t::r,us,h=>by
  rw [Mill.Reps] at h ⊢
  obtain ⟨u,us',h1,h2,h3⟩:=h
  exact ⟨u,us',h1,Mill.Rep.below hQ hc t u h2,Mill.Reps.below hQ hc r us' h3⟩
end
def Mill.LevelsTo (n:Nat):Prop := ∀ (t:Mill.Tr) (v:Value) (w:World) (P:Nat→Prop),t.high < n→(∀ g,P g→g < w.heap.size)→Mill.Rep P w t v →
 Calls Tryz.prog 76 #[v] w fun e w'=>e = .returned (.int .i64 ((t.high:Int)+1))∧Below w.heap.size w w'
theorem Mill.highs_step (ts:List Mill.Tr) (i:Nat) (h:i < ts.length):Mill.Tr.highs (ts.take (i+1))=max (Mill.Tr.highs (ts.take i)) (ts[i].high+1):=by
 rw [← List.take_append_getElem h,Mill.highs_app]
 simp [Mill.Tr.highs]
theorem Mill.max_if (p q:Nat):Value.int .i64 (if (p:Int) < (q:Int)+1 then (q:Int)+1 else (p:Int)) = .int .i64 ((max p (q+1):Nat):Int):=by
 congr 1
 split <;> omega
theorem Mill.highs_take (ts:List Mill.Tr) (i:Nat):Mill.Tr.highs (ts.take i)≤Mill.Tr.highs ts:=by
 have h:=Mill.highs_app (ts.take i) (ts.drop i)
 rw [List.take_append_drop] at h
 omega
theorem Tryz.cf_intNode (x:Array Value) (w:World):(callFunc 184 x).run Tryz.prog w = .ok (.enter 184 x) w:=by kernel_rfl
theorem Tryz.cf_textNode (x:Array Value) (w:World):(callFunc 185 x).run Tryz.prog w = .ok (.enter 185 x) w:=by kernel_rfl
theorem Tryz.cf_boolNode (x:Array Value) (w:World):(callFunc 186 x).run Tryz.prog w = .ok (.enter 186 x) w:=by kernel_rfl
theorem Tryz.cf_nameNode (x:Array Value) (w:World):(callFunc 187 x).run Tryz.prog w = .ok (.enter 187 x) w:=by kernel_rfl
theorem Tryz.cf_unNode (x:Array Value) (w:World):(callFunc 188 x).run Tryz.prog w = .ok (.enter 188 x) w:=by kernel_rfl
theorem Tryz.cf_binNode (x:Array Value) (w:World):(callFunc 189 x).run Tryz.prog w = .ok (.enter 189 x) w:=by kernel_rfl
theorem Tryz.cf_callNode (x:Array Value) (w:World):(callFunc 190 x).run Tryz.prog w = .ok (.enter 190 x) w:=by kernel_rfl
theorem Tryz.cf_builtNode (x:Array Value) (w:World):(callFunc 191 x).run Tryz.prog w = .ok (.enter 191 x) w:=by kernel_rfl
theorem Tryz.cf_convNode (x:Array Value) (w:World):(callFunc 192 x).run Tryz.prog w = .ok (.enter 192 x) w:=by kernel_rfl
theorem Tryz.cf_letNode (x:Array Value) (w:World):(callFunc 193 x).run Tryz.prog w = .ok (.enter 193 x) w:=by kernel_rfl
theorem Tryz.cf_setNode (x:Array Value) (w:World):(callFunc 194 x).run Tryz.prog w = .ok (.enter 194 x) w:=by kernel_rfl
theorem Tryz.cf_ifNode (x:Array Value) (w:World):(callFunc 182 x).run Tryz.prog w = .ok (.enter 182 x) w:=by kernel_rfl
theorem Tryz.cf_whileNode (x:Array Value) (w:World):(callFunc 183 x).run Tryz.prog w = .ok (.enter 183 x) w:=by kernel_rfl
theorem Tryz.cf_breakNode (x:Array Value) (w:World):(callFunc 195 x).run Tryz.prog w = .ok (.enter 195 x) w:=by kernel_rfl
theorem Tryz.cf_continueNode (x:Array Value) (w:World):(callFunc 196 x).run Tryz.prog w = .ok (.enter 196 x) w:=by kernel_rfl
theorem Tryz.cf_returnNode (x:Array Value) (w:World):(callFunc 197 x).run Tryz.prog w = .ok (.enter 197 x) w:=by kernel_rfl
theorem Tryz.cf_failNode (x:Array Value) (w:World):(callFunc 198 x).run Tryz.prog w = .ok (.enter 198 x) w:=by kernel_rfl
theorem Tryz.cf_writeNode (x:Array Value) (w:World):(callFunc 199 x).run Tryz.prog w = .ok (.enter 199 x) w:=by kernel_rfl
theorem Tryz.cf_sayNode (x:Array Value) (w:World):(callFunc 200 x).run Tryz.prog w = .ok (.enter 200 x) w:=by kernel_rfl
theorem Tryz.cf_doNode (x:Array Value) (w:World):(callFunc 201 x).run Tryz.prog w = .ok (.enter 201 x) w:=by kernel_rfl
theorem Tryz.cf_blockNode (x:Array Value) (w:World):(callFunc 178 x).run Tryz.prog w = .ok (.enter 178 x) w:=by kernel_rfl
theorem Tryz.cf_paramNode (x:Array Value) (w:World):(callFunc 180 x).run Tryz.prog w = .ok (.enter 180 x) w:=by kernel_rfl
theorem Tryz.cf_fnNode (x:Array Value) (w:World):(callFunc 179 x).run Tryz.prog w = .ok (.enter 179 x) w:=by kernel_rfl
theorem Tryz.cf_programNode (x:Array Value) (w:World):(callFunc 176 x).run Tryz.prog w = .ok (.enter 176 x) w:=by kernel_rfl
theorem levels_gen (n:Nat) (hn:n≤200000) (ih:Mill.LevelsTo n) (T:TypeId) (f:FuncId) (hm:∀ (v:Value) (w:World),(method 345 T v "loop.example/kilnmill/impl.parts").run Tryz.prog w = .ok (f,v) w) (hcf:∀ (x:Array Value) (w:World),(callFunc f x).run Tryz.prog w = .ok (.enter f x) w) (d:Mill.Nd) (P:Nat→Prop) (ts:List Mill.Tr) (us:List Value) (X:Value) (w:World) (hP:∀ g,P g→g < w.heap.size) (hl2:us.length≤100000) (hpt:Calls Tryz.prog f #[X] w fun e w'=>Mill.Parts P w d us e w') (hR:Mill.Reps P w ts us) (hh:Mill.Tr.highs ts≤n) :
  Calls Tryz.prog 76 #[.iface T X] w fun e w'=>e = .returned (.int .i64 ((Mill.Tr.highs ts:Int)+1))∧Below w.heap.size w w':=by
 have hul:=Mill.Reps.len ts us hR
 obtain ⟨m,HM⟩:∃ m,Hid (us.length=m):=⟨_,(rfl:us.length=_)⟩
 have hml:m≤100000:=by rw [← HM.out];exact hl2
 have hmt:ts.length=m:=by rw [← hul];exact HM.out
 have hRa:=Mill.Reps.at ts us hR
 clear hl2 hul hR
 go_enter Tryz.func76,Tryz.ntmps76
 go_wp2_with (refine hpt.mono ?_;rintro e w1 ⟨S,rfl,hb,hS⟩;rw [HM.out] at hS;obtain ⟨sa,sc,rfl,hcl⟩:=hS;generalize Mill.takenN _ us.length=D;rcases D with ⟨c',o',t',y',x',k'⟩;simp only [Mill.ndV])
 have hz:=hb.size
 have hba:Below w.heap.size w (w1.alloc (.cells #[.int .i64 c',.int .i64 o',.int .i64 t',.int .i64 y',.string x',.int .i64 k'] 43)):=hb.alloc hz _
 have hcell:∀ (W:World),Below w1.heap.size w1 W→∀ (j:Nat) u,us[j]? = some u→∃ g,sa=some ⟨g,0,none⟩∧W.cell? ⟨g,j,none⟩=some u:=fun W hW j u hj=>by
  obtain ⟨g,ha,hg,hq⟩:=hcl j u hj
  have hg1:g < w1.heap.size:=by
   rcases hg with hg | hg
   ·have:=hP g hg;omega
   ·exact hg.2
  exact ⟨g,ha,by rw [hW.cell (p:=⟨g,j,none⟩) hg1];exact hq⟩
 clear hcl hpt hm hcf
 have HC:Hid (∀ (W:World),Below w1.heap.size w1 W→∀ (j:Nat) u,us[j]? = some u→∃ g,sa=some ⟨g,0,none⟩∧W.cell? ⟨g,j,none⟩=some u):=hcell
 have HR:Hid (∀ (i:Nat) (h:i < ts.length),∃ u,us[i]? = some u∧Mill.Rep P w ts[i] u):=hRa
 clear hcell hRa
 go_loopw [5,15] (fun tm tv wr => ∃ i:Nat,i≤m∧tv = .int .i64 (i:Int)∧tm = .int .i64 (Mill.Tr.highs (ts.take i):Int)∧Below w1.heap.size w1 wr) (fun _ tv _=>m - (intOf tv).toNat)
 case atStart=>exact ⟨0,by omega,rfl,rfl,(Below.refl _ w1).alloc (Nat.le_refl _) _⟩
 case round =>
  obtain ⟨i,hi,rfl,rfl,hbw⟩:=hrel
  have hzr:=hbw.size
  by_cases hlt:i < m
  ·have hit:i < ts.length:=by omega
   obtain ⟨u,hu,hr⟩:=HR.out i hit
   obtain ⟨g,rfl,hc⟩:=HC.out wr hbw i u hu
   have hbwr:Below w.heap.size w wr:=hb.trans (hbw.mono hz)
   have hr1:Mill.Rep P wr ts[i] u:=Mill.Rep.below (fun g h=>h) (fun g h=>hbwr.block g (hP g h)) _ _ hr
   have hlv:=Mill.highs_at ts i hit
   have hih:=ih ts[i] u wr P (by omega) (fun g h=>by have:=hP g h;omega) hr1
   have HS:Hid (Mill.Tr.highs (ts.take (i+1))=max (Mill.Tr.highs (ts.take i)) (ts[i].high+1)):=Mill.highs_step ts i hit
   have hbd:Mill.Tr.highs (ts.take i)≤200000:=Nat.le_trans (Mill.highs_take ts i) (by omega)
   have hbd2:ts[i].high≤200000:=by omega
   clear hr hr1 HR HC hlv hu
   generalize ts[i].high=q at *
   generalize Mill.Tr.highs (ts.take i)=p at *
   go_wp2_with (go_at_call 76;refine hih.mono ?_;rintro e w2 ⟨rfl,hb2⟩)
   go_roundw
   case rel=>exact ⟨i+1,by omega,by go_num,by rw [HS.out];exact Mill.max_if p q,hbw.trans (hb2.mono hzr)⟩
   case measure=>simp [intOf];omega
  ·have hie:i=m:=by omega
   subst hie
   have hT:ts.take i=ts:=List.take_of_length_le (by omega)
   rw [hT]
   have hbd:Mill.Tr.highs ts≤200000:=by omega
   clear HR HC hT
   go_wp2
   go_ret
   exact ⟨rfl,hb.trans (hbw.mono hz)⟩
end Go.Proofs.YtlcckaffhnjneaaGreatDoor
namespace Go.Proofs.YtlcckaffhnjneaaGreatDoor
open Go.RowKit
theorem Mill.levels_zero : Mill.LevelsTo 0:=fun t v w P h=>by omega
theorem Mill.levels_succ (n:Nat) (hn:n≤200000) (ih:Mill.LevelsTo n):Mill.LevelsTo (n+1):=by
 intro t v w P ht hP hr
 obtain ⟨d,ks⟩:=t
 rw [Mill.Rep] at hr
 obtain ⟨us,⟨h1,h2,X,rfl,hI⟩,hk,hl,hl2,hR⟩:=hr
 obtain ⟨c,o,t,y,x,k⟩:=d
 have hh:Mill.Tr.highs ks≤n:=by rw [Mill.Tr.high] at ht;omega
 have hhe:(Mill.Tr.node ⟨c,o,t,y,x,k⟩ ks).high=Mill.Tr.highs ks:=by rw [Mill.Tr.high]
 rw [hhe]
 simp only at h1 h2 hl ⊢
 rcases Mill.kind24 c h1 h2 with rfl | rfl | rfl | rfl | rfl | rfl | rfl | rfl | rfl | rfl | rfl | rfl | rfl | rfl | rfl | rfl | rfl | rfl | rfl | rfl | rfl | rfl | rfl | rfl
 ·exact levels_gen n hn ih _ _ Tryz.meth_intNode Tryz.cf_intNode ⟨1,o,t,y,x,k⟩ P ks us X w hP hl2 (pt_1 o t y x k P us _ X w hP hk hl hI) hR hh
 ·exact levels_gen n hn ih _ _ Tryz.meth_textNode Tryz.cf_textNode ⟨2,o,t,y,x,k⟩ P ks us X w hP hl2 (pt_2 o t y x k P us _ X w hP hk hl hI) hR hh
 ·exact levels_gen n hn ih _ _ Tryz.meth_boolNode Tryz.cf_boolNode ⟨3,o,t,y,x,k⟩ P ks us X w hP hl2 (pt_3 o t y x k P us _ X w hP hk hl hI) hR hh
 ·exact levels_gen n hn ih _ _ Tryz.meth_nameNode Tryz.cf_nameNode ⟨4,o,t,y,x,k⟩ P ks us X w hP hl2 (pt_4 o t y x k P us _ X w hP hk hl hI) hR hh
 ·exact levels_gen n hn ih _ _ Tryz.meth_unNode Tryz.cf_unNode ⟨5,o,t,y,x,k⟩ P ks us X w hP hl2 (pt_5 o t y x k P us _ X w hP hk hl hI) hR hh
 ·exact levels_gen n hn ih _ _ Tryz.meth_binNode Tryz.cf_binNode ⟨6,o,t,y,x,k⟩ P ks us X w hP hl2 (pt_6 o t y x k P us _ X w hP hk hl hI) hR hh
 ·exact levels_gen n hn ih _ _ Tryz.meth_callNode Tryz.cf_callNode ⟨7,o,t,y,x,k⟩ P ks us X w hP hl2 (pt_7 o t y x k P us _ X w hP hk hl hI) hR hh
 ·exact levels_gen n hn ih _ _ Tryz.meth_builtNode Tryz.cf_builtNode ⟨8,o,t,y,x,k⟩ P ks us X w hP hl2 (pt_8 o t y x k P us _ X w hP hk hl hI) hR hh
 ·exact levels_gen n hn ih _ _ Tryz.meth_convNode Tryz.cf_convNode ⟨9,o,t,y,x,k⟩ P ks us X w hP hl2 (pt_9 o t y x k P us _ X w hP hk hl hI) hR hh
 ·exact levels_gen n hn ih _ _ Tryz.meth_letNode Tryz.cf_letNode ⟨10,o,t,y,x,k⟩ P ks us X w hP hl2 (pt_10 o t y x k P us _ X w hP hk hl hI) hR hh
 ·exact levels_gen n hn ih _ _ Tryz.meth_setNode Tryz.cf_setNode ⟨11,o,t,y,x,k⟩ P ks us X w hP hl2 (pt_11 o t y x k P us _ X w hP hk hl hI) hR hh
 ·exact levels_gen n hn ih _ _ Tryz.meth_ifNode Tryz.cf_ifNode ⟨12,o,t,y,x,k⟩ P ks us X w hP hl2 (pt_12 o t y x k P us _ X w hP hk hl hI) hR hh
 ·exact levels_gen n hn ih _ _ Tryz.meth_whileNode Tryz.cf_whileNode ⟨13,o,t,y,x,k⟩ P ks us X w hP hl2 (pt_13 o t y x k P us _ X w hP hk hl hI) hR hh
 ·exact levels_gen n hn ih _ _ Tryz.meth_breakNode Tryz.cf_breakNode ⟨14,o,t,y,x,k⟩ P ks us X w hP hl2 (pt_14 o t y x k P us _ X w hP hk hl hI) hR hh
 ·exact levels_gen n hn ih _ _ Tryz.meth_continueNode Tryz.cf_continueNode ⟨15,o,t,y,x,k⟩ P ks us X w hP hl2 (pt_15 o t y x k P us _ X w hP hk hl hI) hR hh
 ·exact levels_gen n hn ih _ _ Tryz.meth_returnNode Tryz.cf_returnNode ⟨16,o,t,y,x,k⟩ P ks us X w hP hl2 (pt_16 o t y x k P us _ X w hP hk hl hI) hR hh
 ·exact levels_gen n hn ih _ _ Tryz.meth_failNode Tryz.cf_failNode ⟨17,o,t,y,x,k⟩ P ks us X w hP hl2 (pt_17 o t y x k P us _ X w hP hk hl hI) hR hh
 ·exact levels_gen n hn ih _ _ Tryz.meth_writeNode Tryz.cf_writeNode ⟨18,o,t,y,x,k⟩ P ks us X w hP hl2 (pt_18 o t y x k P us _ X w hP hk hl hI) hR hh
 ·exact levels_gen n hn ih _ _ Tryz.meth_sayNode Tryz.cf_sayNode ⟨19,o,t,y,x,k⟩ P ks us X w hP hl2 (pt_19 o t y x k P us _ X w hP hk hl hI) hR hh
 ·exact levels_gen n hn ih _ _ Tryz.meth_doNode Tryz.cf_doNode ⟨20,o,t,y,x,k⟩ P ks us X w hP hl2 (pt_20 o t y x k P us _ X w hP hk hl hI) hR hh
 ·exact levels_gen n hn ih _ _ Tryz.meth_blockNode Tryz.cf_blockNode ⟨21,o,t,y,x,k⟩ P ks us X w hP hl2 (pt_21 o t y x k P us _ X w hP hk hl hI) hR hh
 ·exact levels_gen n hn ih _ _ Tryz.meth_paramNode Tryz.cf_paramNode ⟨22,o,t,y,x,k⟩ P ks us X w hP hl2 (pt_22 o t y x k P us _ X w hP hk hl hI) hR hh
 ·exact levels_gen n hn ih _ _ Tryz.meth_fnNode Tryz.cf_fnNode ⟨23,o,t,y,x,k⟩ P ks us X w hP hl2 (pt_23 o t y x k P us _ X w hP hk hl hI) hR hh
 ·exact levels_gen n hn ih _ _ Tryz.meth_programNode Tryz.cf_programNode ⟨24,o,t,y,x,k⟩ P ks us X w hP hl2 (pt_24 o t y x k P us _ X w hP hk hl hI) hR hh
theorem Mill.levels_to : ∀ n,n≤200000→Mill.LevelsTo n
 | 0,_=>Mill.levels_zero
 | n+1,h=>Mill.levels_succ n (by omega) (Mill.levels_to n (by omega))
theorem levels_any (t:Mill.Tr) (v:Value) (w:World) (P:Nat→Prop) (hh:t.high < 200000) (hP:∀ g,P g→g < w.heap.size) (hr:Mill.Rep P w t v) :
  Calls Tryz.prog 76 #[v] w fun e w'=>e = .returned (.int .i64 ((t.high:Int)+1))∧Below w.heap.size w w' :=
 Mill.levels_to 200000 (Nat.le_refl _) t v w P hh hP hr
theorem Tryz.eqNilB (w:World):(binOp .eql 71 (.slice none 0 0) (.slice none 0 0)).run Tryz.prog w = .ok (.bool true) w:=by kernel_rfl
theorem Tryz.neNilB (a:Addr) (n c:Nat) (w:World):(binOp .eql 71 (.slice (some a) n c) (.slice none 0 0)).run Tryz.prog w = .ok (.bool false) w:=by kernel_rfl
theorem CloneB_any (tb off m c:Nat) (us:List Value) (w:World) (hu:us.length=m) (hm:m≤100000) (hone:∀ u ∈ us,u.oneCell'=true) (hcell:∀ (j:Nat) u,us[j]? = some u→w.cell? ⟨tb,off+j,none⟩=some u) (htb:tb < w.heap.size) :
  Calls Tryz.prog 74 #[.slice (some ⟨tb,off,none⟩) m c] w fun e w' => ∃ S,e = .returned S∧w'.ownsRow w.heap.size 70 1 S m us∧Below w.heap.size w w':=by
 obtain ⟨i0,hi0,hz0,hz1,hz2⟩:=info_parts Tryz.infoBranch
 have o0:(w.alloc (.cells #[] 70)).ownsRow w.heap.size 70 1 (.slice (some ⟨w.heap.size,0,none⟩) 0 0) 0 []:=by simpa using World.ownsRow_made (base:=w.heap.size) (e:=70) (size:=1) w #[] 0 (Nat.le_refl _) (by decide) rfl
 have hc1:∀ (j:Nat) u,us[j]? = some u→(w.alloc (.cells #[] 70)).cell? ((⟨tb,off,none⟩:Addr).add j)=some u:=by
  intro j u hj
  have hadd:(⟨tb,off,none⟩:Addr).add j=⟨tb,off+j,none⟩:=by unfold Addr.add;split <;> simp_all
  rw [hadd,World.cell?_alloc_past _ _ _ htb];exact hcell j u hj
 clear hcell
 have hq:=Tryz.neNilB
 go_enter Tryz.func74,Tryz.ntmps74
 go_wp2_with (at_builtin;(refine wpList_append_own _ rfl _ _ 71 rfl w.heap.size 70 i0 .nilIface 1 16 Tryz.underlying71 hi0 hz0 hz1 hz2 rfl (by decide) _ 0 [] rfl o0 ⟨tb,off,none⟩ m c us rfl (by omega) hc1 hone (by unfold maxLen;omega) (by omega) (by simp only [World.size_alloc];omega) ?_;intro v' w3 hown' hgrow3 _))
 go_ret
 exact ⟨_,rfl,by simpa using hown',Below.grown ((Below.refl _ w).alloc (Nat.le_refl _) _) hgrow3 (by simp only [World.size_alloc];omega) (fun j hj=>by cases hj;exact Nat.le_refl _)⟩
theorem CloneB_nil (w:World) :
  Calls Tryz.prog 74 #[.slice none 0 0] w fun e w'=>e = .returned (.slice none 0 0)∧w=w':=by
 have hq:=Tryz.eqNilB
 go_enter Tryz.func74,Tryz.ntmps74
 go_wp2
 go_ret
 exact ⟨rfl,rfl⟩
end Go.Proofs.YtlcckaffhnjneaaGreatDoor
