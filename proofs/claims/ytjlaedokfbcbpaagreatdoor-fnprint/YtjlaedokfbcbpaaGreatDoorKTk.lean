import Derived.Below
import Derived.RowKit
import Derived.Test.YtjlaedokfbcbpaaGreatDoorRows
import Derived.Deep.RegionHeld3
namespace Go.Proofs.YtjlaedokfbcbpaaGreatDoor
open Go.RowKit
theorem Tk {P:Program} {ops:Array Oper} {Q:Exit->Act->World->Prop} {md:Region.Mode} {S:World->Prop} (i:Nat) (v:Value) {oi:Oper} {fuel:Nat} {listed:Array Bool} {a:Act} {w:World} (h:wpAnyH P md ops Q S fuel (listed.setIfInBounds i true) (a.put oi.dst v) w) (hi:ops[i]? = some oi:=by rfl) (hs:Region.noSelect ops = true:=by kernel_rfl) (hf:Region.free md ops listed i = true:=by kernel_rfl) (hr:(Region.ready md ops listed).contains i = true:=by kernel_rfl) (hQ:∀ c a w,Q (.panic c) (a.put oi.dst v) w->Q (.panic c) a w:=by exact fun _ _ _ h=>h) (hy:YieldsIf P ops S oi v a:=by exact Or.inl ⟨by rfl,by intro w hSw;go_simp⟩) (hS:S w:=by assumption):wpAnyH P md ops Q S (fuel+1) listed a w:=wpAnyH_take hi hs hf hr hQ hy hS h
theorem Ts {P:Program} {ops:Array Oper} {Q:Exit->Act->World->Prop} {md:Region.Mode} {S:World->Prop} (i:Nat) {oi:Oper} {fuel:Nat} {listed:Array Bool} {a:Act} {w:World} (h:wpAnyH P md ops Q S fuel (listed.setIfInBounds i true) (a.put oi.dst undef) w) (hi:ops[i]? = some oi:=by rfl) (hs:Region.noSelect ops = true:=by kernel_rfl) (hf:Region.free md ops listed i = true:=by kernel_rfl) (hr:(Region.ready md ops listed).contains i = true:=by kernel_rfl) (hQ:∀ c a w,Q (.panic c) (a.put oi.dst undef) w->Q (.panic c) a w:=by exact fun _ _ _ h=>h) (hy:YieldsIf P ops S oi undef a:=by exact Or.inr ⟨by rfl,rfl⟩) (hS:S w:=by assumption):wpAnyH P md ops Q S (fuel+1) listed a w:=wpAnyH_take hi hs hf hr hQ hy hS h
theorem Tr {P:Program} {ops:Array Oper} {Q:Exit->Act->World->Prop} {md:Region.Mode} {S:World->Prop} (i:Nat) {oi:Oper} {fuel:Nat} {listed:Array Bool} {a:Act} {w:World} (hi:ops[i]? = some oi) (h:∀ K':Act->World->Prop,Shut (∀ a w,S w->(S w->wpAnyH P md ops Q S fuel (listed.setIfInBounds i true) a w)->K' a w)->if Region.wanted oi (yielded ops a.tmps) = true then Oper.wp P oi a w K' Q else K' (a.put oi.dst undef) w) (hr:Region.ready md ops listed = [i]:=by kernel_rfl):wpAnyH P md ops Q S (fuel+1) listed a w:=wpAnyH_ready hr (by simp) (AllReadyH.cons hi h AllReadyH.nil)
theorem OA {P:Prop} (h:P:=by repeat (first|exact Below.refl _ _|refine Below.alloc ?_ (by first|exact Nat.le_refl _|(simp only[World.size_alloc];omega)) _)):P:=h
theorem OB {P:Prop} (h:P:=by simp only[World.size_alloc];omega):P:=h
theorem OC {P:Prop} (h:P:=by omega):P:=h
theorem OD {P:Prop} (h:P:=by decide):P:=h
theorem OE {P:Prop} (h:P:=by kernel_rfl):P:=h
theorem OF {P:Prop} (h:P:=by simp):P:=h
theorem OG {P:Prop} (h:P:=by assumption):P:=h
theorem OH {P:Prop} (h:P:=by simp;omega):P:=h
theorem OI {P:Prop} (h:P:=by unfold maxLen;omega):P:=h
theorem OJ {P:Prop} (h:P:=by simp only;omega):P:=h
abbrev OK (b k:Nat):Addr:=⟨b,k,none⟩
abbrev OL (w:World) (i k:Nat):Addr:=⟨w.heap.size+i,k,none⟩
abbrev OM (w:World) (k:Nat):Addr:=⟨w.heap.size,k,none⟩
theorem ON {n:Nat}:n<=n:=Nat.le_refl n
theorem OO {n:Nat} (w:World):Below n w w:=Below.refl n w
theorem OP (w:World) (o:Obj):Below w.heap.size w (w.alloc o):=(Below.refl _ w).alloc (Nat.le_refl _) o
end Go.Proofs.YtjlaedokfbcbpaaGreatDoor
