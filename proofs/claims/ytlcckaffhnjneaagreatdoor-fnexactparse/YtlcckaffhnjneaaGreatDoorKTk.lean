import Derived.Test.YtlcckaffhnjneaaGreatDoorRows
import Derived.Deep.RegionHeld3
namespace Go.Proofs.YtlcckaffhnjneaaGreatDoor
theorem Tk {P:Program} {ops:Array Oper} {Q:Exit→Act→World→Prop} {md:Region.Mode} {S:World→Prop} (i:Nat) (v:Value) {oi:Oper} {fuel:Nat} {listed:Array Bool} {a:Act} {w:World} (h:wpAnyH P md ops Q S fuel (listed.setIfInBounds i true) (a.put oi.dst v) w) (hi:ops[i]? = some oi := by rfl) (hs:Region.noSelect ops = true := by kernel_rfl) (hf:Region.free md ops listed i = true := by kernel_rfl) (hr:(Region.ready md ops listed).contains i = true := by kernel_rfl) (hQ:∀ c a w,Q (.panic c) (a.put oi.dst v) w→Q (.panic c) a w := by exact fun _ _ _ h=>h) (hy:YieldsIf P ops S oi v a := by exact Or.inl ⟨by rfl,by intro w hSw;go_simp⟩) (hS:S w := by assumption):wpAnyH P md ops Q S (fuel+1) listed a w:=wpAnyH_take hi hs hf hr hQ hy hS h
end Go.Proofs.YtlcckaffhnjneaaGreatDoor
