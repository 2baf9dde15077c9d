import Derived.Test.YtbkhedpabfanoaaGreatDoorKRcN
import Derived.WalkKit
import Derived.LaidEql
import Derived.Stop.Asserts
import Derived.RowKitTokens
namespace Go.Proofs.YtbkhedpabfanoaaGreatDoor
open Go.RowKit Go.Extern.Stop Go.Stop Go.Extern

theorem Rc.as_nil (t:Value) (w:World) :
    Calls Tryz.prog 13 #[.nilIface,t] w fun e w'=>e = .returned (.bool false)∧w'=w:=by
  go_enter Tryz.func13,Tryz.ntmps13
  go_wp2
  go_ret
  exact ⟨rfl,rfl⟩
theorem Rc.valP (t:Addr) (w:World):(ReflectliteValue.unpack (.iface 47 (.pointer (some t)))).run Tryz.prog w = .ok (.agg #[.pointer (some ⟨11,47,none⟩),.pointer (some ⟨w.heap.size,0,none⟩),.int .u64 150]) (w.alloc (.cells #[.pointer (some t)] 47)):=by kernel_rfl
theorem Rc.typP (a:Addr) (w:World):(ReflectliteValue.methodAny (ReflectliteValue.valueError "reflectlite.Value.Type" 0) (fun t _ _ _=>ReflectliteType.toType t) #[.agg #[.pointer (some ⟨11,47,none⟩),.pointer (some a),.int .u64 150]]).run Tryz.prog w = .ok (.iface 91 (.agg #[.pointer (some ⟨11,47,none⟩)])) w:=by kernel_rfl
theorem Rc.mKind (h:Value) (w:World):(Go.method 350 91 (.agg #[h]) "Kind").run Tryz.prog w = .ok (145,h) w:=by kernel_rfl
theorem Rc.kindP (w:World):((ReflectliteType.abiMethod fun t=>(fun a:Nat=>Value.int IntKind.u8 (a:Int)) <$> Rtype.kind t) #[.pointer (some ⟨11,47,none⟩)]).run Tryz.prog w = .ok (.int .u8 22) w:=by kernel_rfl
theorem Rc.kindM (w:World):((ReflectliteType.abiMethod fun t=>(fun a:Nat=>Value.int IntKind.u8 (a:Int)) <$> Rtype.kind t) #[.pointer (some ⟨11,45,none⟩)]).run Tryz.prog w = .ok (.int .u8 25) w:=by kernel_rfl
theorem Rc.rlm (z:Sem Value) (f:TypeId→Addr→Nat→Nat→Sem Value) (v:Value) :
    ReflectliteValue.method z f #[v]=(do match ← ReflectliteValue.parts v with | none=>z | some (t,a,fl)=>f t a fl (fl % 32)):=rfl
theorem Rc.partP (a:Addr) (w:World):(ReflectliteValue.parts (.agg #[.pointer (some ⟨11,47,none⟩),.pointer (some a),.int .u64 150])).run Tryz.prog w = .ok (some (47,a,150)) w:=by kernel_rfl
theorem Rc.isNilP (a p:Addr) (W:World) (ha:W.cell? a=some (.pointer (some p))) :
    (ReflectliteValue.method (ReflectliteValue.valueError "reflectlite.Value.IsNil" 0) ReflectliteValue.isNil #[.agg #[.pointer (some ⟨11,47,none⟩),.pointer (some a),.int .u64 150]]).run Tryz.prog W = .ok (.bool false) W:=by
  rw [Rc.rlm]
  simp only [Sem.run_bind,Rc.partP,Result.andThen]
  simp [ReflectliteValue.isNil,loadVar,isAgg,underlying,Tryz.underlying47,ha,Result.andThen]
theorem Rc.mElem (h:Value) (w:World):(Go.method 350 91 (.agg #[h]) "Elem").run Tryz.prog w = .ok (156,.agg #[h]) w:=by kernel_rfl
theorem Rc.mImpl (h:Value) (w:World):(Go.method 350 91 (.agg #[h]) "Implements").run Tryz.prog w = .ok (157,.agg #[h]) w:=by kernel_rfl
theorem Rc.mAssign (h:Value) (w:World):(Go.method 350 91 (.agg #[h]) "AssignableTo").run Tryz.prog w = .ok (154,.agg #[h]) w:=by kernel_rfl
theorem Rc.elemP (w:World):(ReflectliteType.method ReflectliteType.elem #[.agg #[.pointer (some ⟨11,47,none⟩)]]).run Tryz.prog w = .ok (.iface 91 (.agg #[.pointer (some ⟨11,45,none⟩)])) w:=by kernel_rfl
theorem Rc.implM (w:World):(ReflectliteType.relation "Implements" ReflectliteType.implements_ #[.agg #[.pointer (some ⟨11,45,none⟩)],.iface 91 (.agg #[.pointer (some ⟨11,41,none⟩)])]).run Tryz.prog w = .ok (.bool true) w:=by kernel_rfl
theorem Rc.typeM (v:Value) (w:World):(ReflectliteType.typeOf #[.iface 45 v]).run Tryz.prog w = .ok (.iface 91 (.agg #[.pointer (some ⟨11,45,none⟩)])) w:=by kernel_rfl
theorem Rc.assignM (w:World):(ReflectliteType.relation "AssignableTo" ReflectliteType.assignableTo #[.agg #[.pointer (some ⟨11,45,none⟩)],.iface 91 (.agg #[.pointer (some ⟨11,45,none⟩)])]).run Tryz.prog w = .ok (.bool true) w:=by kernel_rfl
theorem Rc.valM (n:Int) (a:Addr) (w:World):(ReflectliteValue.unpack (.iface 45 (.agg #[.int .i64 n,.iface 214 (.pointer (some a))]))).run Tryz.prog w = .ok (.agg #[.pointer (some ⟨11,45,none⟩),.pointer (some ⟨w.heap.size,0,none⟩),.int .u64 153]) (w.alloc (.cells #[.int .i64 n,.iface 214 (.pointer (some a))] 45)):=by kernel_rfl
theorem Rc.elemOfP (w:World):(Rtype.elem? 47).run Tryz.prog w = .ok (some 45) w:=by kernel_rfl
theorem Rc.mkM (p:Addr) (w:World):(ReflectliteValue.mk 45 p ReflectliteValue.flagAddr).run Tryz.prog w = .ok (.agg #[.pointer (some ⟨11,45,none⟩),.pointer (some p),.int .u64 409]) w:=by kernel_rfl
theorem Rc.elemV (a p:Addr) (W:World) (ha:W.cell? a=some (.pointer (some p))) :
    (ReflectliteValue.method (ReflectliteValue.valueError "reflectlite.Value.Elem" 0) ReflectliteValue.elem #[.agg #[.pointer (some ⟨11,47,none⟩),.pointer (some a),.int .u64 150]]).run Tryz.prog W
      = .ok (.agg #[.pointer (some ⟨11,45,none⟩),.pointer (some p),.int .u64 409]) W:=by
  rw [Rc.rlm]
  simp only [Sem.run_bind,Rc.partP,Result.andThen]
  simp [ReflectliteValue.elem,loadVar,isAgg,underlying,Tryz.underlying47,ha,Result.andThen,Rc.elemOfP,Rc.mkM]
theorem Rc.rls (v x:Value):ReflectliteValue.set #[v,x]=(do
    let (some (dst,a,fl),some (src,b,_)):=(← ReflectliteValue.parts v,← ReflectliteValue.parts x)
      | unsupported (.noEntry "extern/(internal/reflectlite.Value).Set.zeroValue")
    if fl / ReflectliteValue.flagAddr % 2 == 0 then unsupported (.noEntry "extern/(internal/reflectlite.Value).Set.unaddressable")
    let val ← loadVar src b
    if ← Rtype.directlyAssignable dst src then storeVar dst a val
    else if ← Rtype.implements dst src then
      if (← Rtype.kind src) == 20 then
        match val with
        | .nilIface=>unsupported (.noEntry "extern/reflectlite: a nil value of one interface type handed on as a value of another")
        | _=>storeVar dst a val
      else storeVar dst a (.iface src val)
    else panicString ("reflectlite.Set: value of type " ++ (← Rtype.spelt src) ++ " is not assignable to type " ++ (← Rtype.spelt dst))
    pure (.tuple #[])):=rfl
theorem Rc.partMa (a:Addr) (w:World):(ReflectliteValue.parts (.agg #[.pointer (some ⟨11,45,none⟩),.pointer (some a),.int .u64 409])).run Tryz.prog w = .ok (some (45,a,409)) w:=by kernel_rfl
theorem Rc.partM (a:Addr) (w:World):(ReflectliteValue.parts (.agg #[.pointer (some ⟨11,45,none⟩),.pointer (some a),.int .u64 153])).run Tryz.prog w = .ok (some (45,a,153)) w:=by kernel_rfl
theorem Rc.directM (w:World):(Rtype.directlyAssignable 45 45).run Tryz.prog w = .ok true w:=by kernel_rfl
end Go.Proofs.YtbkhedpabfanoaaGreatDoor
namespace Go.Proofs.YtbkhedpabfanoaaGreatDoor
open Go.RowKit Go.Extern.Stop Go.Stop Go.Extern

theorem Rc.setM (t b:Nat) (n:Int) (a:Addr) (o0 o1:Value) (W:World) (hb0:W.cell? ⟨b,0,none⟩=some (.int .i64 n)) (hb1:W.cell? ⟨b,1,none⟩=some (.iface 214 (.pointer (some a)))) (ht0:W.cell? ⟨t,0,none⟩=some o0) (ht1:W.cell? ⟨t,1,none⟩=some o1) (hf0:W.frozen? ⟨t,0,none⟩=false) (hf1:W.frozen? ⟨t,1,none⟩=false) :
    (ReflectliteValue.set #[.agg #[.pointer (some ⟨11,45,none⟩),.pointer (some ⟨t,0,none⟩),.int .u64 409],.agg #[.pointer (some ⟨11,45,none⟩),.pointer (some ⟨b,0,none⟩),.int .u64 153]]).run Tryz.prog W
      = .ok (.tuple #[]) ((W.setCell ⟨t,0,none⟩ (.int .i64 n)).setCell ⟨t,1,none⟩ (.iface 214 (.pointer (some a)))):=by
  rw [Rc.rls]
  simp only [Sem.run_bind,Rc.partMa,Rc.partM,Result.andThen]
  have h1:(W.setCell ⟨t,0,none⟩ (.int .i64 n)).cell? ⟨t,1,none⟩=some o1:=by rw [World.cell?_setCell_other _ _ _ _ (by simp)];exact ht1
  have h2:(W.setCell ⟨t,0,none⟩ (.int .i64 n)).frozen? ⟨t,1,none⟩=false:=by rw [World.frozen?_setCell];exact hf1
  have hL:Sem.run Tryz.prog (loadCells ⟨b,0,none⟩ 2) W = .ok #[.int .i64 n,.iface 214 (.pointer (some a))] W:=by
    simp [loadCells,loadCellsFrom,Addr.add,hb0,hb1,Result.andThen]
  have hS:Sem.run Tryz.prog (storeCells ⟨t,0,none⟩ [.int .i64 n,.iface 214 (.pointer (some a))]) W = .ok () ((W.setCell ⟨t,0,none⟩ (.int .i64 n)).setCell ⟨t,1,none⟩ (.iface 214 (.pointer (some a)))):=by
    have s1:Sem.run Tryz.prog (store ⟨t,0,none⟩ (.int .i64 n)) W = .ok () (W.setCell ⟨t,0,none⟩ (.int .i64 n)):=by
      rw [run_store Tryz.prog W ⟨t,0,none⟩ _ _ (by rfl)]
      simp [ht0,hf0]
    have s2:Sem.run Tryz.prog (store ⟨t,1,none⟩ (.iface 214 (.pointer (some a)))) (W.setCell ⟨t,0,none⟩ (.int .i64 n)) = .ok () ((W.setCell ⟨t,0,none⟩ (.int .i64 n)).setCell ⟨t,1,none⟩ (.iface 214 (.pointer (some a)))):=by
      rw [run_store Tryz.prog (W.setCell ⟨t,0,none⟩ (.int .i64 n)) ⟨t,1,none⟩ _ _ (by rfl)]
      simp [h1,h2]
    simp [storeCells,Addr.add,s1,s2,Result.andThen]
  simp [ReflectliteValue.flagAddr,loadVar,isAgg,underlying,Tryz.underlying45,Result.andThen,Rc.directM,storeVar,Value.cells,hL,hS]
theorem Rc.frA {S:Nat→Prop} {w:World} {a b c d:Obj} (t:Nat) (x y:Value) (ht:S t):Rc.Fr S w ((((((w.alloc a).alloc b).alloc c).alloc d).setCell ⟨t,0,none⟩ x).setCell ⟨t,1,none⟩ y) :=
  ((Rc.Fr.of_below ((Cd.b3 w a b c).alloc (by simp;omega) d)).trans (Rc.Fr.set _ _ _ _ ht)).trans (Rc.Fr.set _ _ _ _ ht)
set_option maxHeartbeats 4000000 in
theorem Rc.as_hit (n:Int) (a:Addr) (t:Nat) (o0 o1:Value) (w:World) (hT:Rc.Tb w) (hb:w.heap[t]? = some (.cells #[o0,o1] 45)) :
    Calls Tryz.prog 13 #[.iface 45 (.agg #[.int .i64 n,.iface 214 (.pointer (some a))]),.iface 47 (.pointer (some ⟨t,0,none⟩))] w fun ev w'=>ev = .returned (.bool true)∧Rc.Fr (fun k=>k=t) w w':=by
  have h1:=@run_callFunc_extern Tryz.prog 23 _ (fun args=>ReflectliteValue.unpack (args.getD 0 (.tuple #[]))) Tryz.func23 (by kernel_rfl) (by kernel_rfl) (by kernel_rfl) (by kernel_rfl)
  have h2:=@run_callFunc_extern Tryz.prog 24 _ (ReflectliteValue.methodAny (ReflectliteValue.valueError "reflectlite.Value.Type" 0) (fun t _ _ _=>ReflectliteType.toType t)) Tryz.func24 (by kernel_rfl) (by kernel_rfl) (by kernel_rfl) (by kernel_rfl)
  have h3:=@run_callFunc_extern Tryz.prog 25 _ (ReflectliteValue.method (ReflectliteValue.valueError "reflectlite.Value.IsNil" 0) ReflectliteValue.isNil) Tryz.func25 (by kernel_rfl) (by kernel_rfl) (by kernel_rfl) (by kernel_rfl)
  have h4:=@run_callFunc_extern Tryz.prog 145 _ (ReflectliteType.abiMethod fun t=>do pure (.int .u8 (← Rtype.kind t))) Tryz.func145 (by kernel_rfl) (by kernel_rfl) (by kernel_rfl) (by kernel_rfl)
  have h5:=@run_callFunc_extern Tryz.prog 156 _ (ReflectliteType.method ReflectliteType.elem) Tryz.func156 (by kernel_rfl) (by kernel_rfl) (by kernel_rfl) (by kernel_rfl)
  have h6:=@run_callFunc_extern Tryz.prog 157 _ (ReflectliteType.relation "Implements" ReflectliteType.implements_) Tryz.func157 (by kernel_rfl) (by kernel_rfl) (by kernel_rfl) (by kernel_rfl)
  have h7:=@run_callFunc_extern Tryz.prog 41 _ ReflectliteType.typeOf Tryz.func41 (by kernel_rfl) (by kernel_rfl) (by kernel_rfl) (by kernel_rfl)
  have h8:=@run_callFunc_extern Tryz.prog 154 _ (ReflectliteType.relation "AssignableTo" ReflectliteType.assignableTo) Tryz.func154 (by kernel_rfl) (by kernel_rfl) (by kernel_rfl) (by kernel_rfl)
  have h9:=@run_callFunc_extern Tryz.prog 42 _ (ReflectliteValue.method (ReflectliteValue.valueError "reflectlite.Value.Elem" 0) ReflectliteValue.elem) Tryz.func42 (by kernel_rfl) (by kernel_rfl) (by kernel_rfl) (by kernel_rfl)
  have h10:=@run_callFunc_extern Tryz.prog 43 _ ReflectliteValue.set Tryz.func43 (by kernel_rfl) (by kernel_rfl) (by kernel_rfl) (by kernel_rfl)
  have e1:=Rc.typeM
  have e2:=Rc.mAssign
  have e3:=Rc.assignM
  have e4:=Rc.valM
  have e5:=Rc.valP
  have e6:=Rc.typP
  have e7:=Rc.mKind
  have e8:=Rc.mElem
  have e9:=Rc.mImpl
  have e10:=Rc.kindP
  have e11:=Rc.kindM
  have e12:=Rc.elemP
  have e13:=Rc.implM
  have htl:t < w.heap.size:=(Array.getElem?_eq_some_iff.1 hb).1
  obtain ⟨c0,f0⟩:(w.cell? ⟨t,0,none⟩=some o0∧w.cell? ⟨t,1,none⟩=some o1)∧w.frozen? ⟨t,0,none⟩=false∧w.frozen? ⟨t,1,none⟩=false:=⟨⟨by rw [Lib.cell_of_heap hb];rfl,by rw [Lib.cell_of_heap hb];rfl⟩,by simp [World.frozen?,hb],by simp [World.frozen?,hb]⟩
  have hg:=hT.ty
  have hs:=hT.siz
  have n8:=Rc.isNilP ⟨w.heap.size,0,none⟩ ⟨t,0,none⟩ ((w.alloc (.cells #[.pointer (some ⟨t,0,none⟩)] 47)).alloc (.cells #[.pointer (some ⟨11,47,none⟩),.pointer (some ⟨w.heap.size,0,none⟩),.int .u64 150] 66)) (by simp)
  have hg2:((w.alloc (.cells #[.pointer (some ⟨t,0,none⟩)] 47)).alloc (.cells #[.pointer (some ⟨11,47,none⟩),.pointer (some ⟨w.heap.size,0,none⟩),.int .u64 150] 66)).cell? ⟨0,0,none⟩=some (.iface 91 (.agg #[.pointer (some ⟨11,41,none⟩)])):=by
    rw [World.cell?_alloc_lt _ _ ⟨0,0,none⟩ (by simp <;> omega),World.cell?_alloc_lt _ _ ⟨0,0,none⟩ (by show 0 < _;omega)];exact hg
  have el:=Rc.elemV ⟨w.heap.size,0,none⟩ ⟨t,0,none⟩ (((w.alloc (.cells #[.pointer (some ⟨t,0,none⟩)] 47)).alloc (.cells #[.pointer (some ⟨11,47,none⟩),.pointer (some ⟨w.heap.size,0,none⟩),.int .u64 150] 66)).alloc (.cells #[.pointer (some ⟨11,47,none⟩),.pointer (some ⟨w.heap.size,0,none⟩),.int .u64 150] 66)) (by rw [World.cell?_alloc_lt _ _ ⟨w.heap.size,0,none⟩ (by simp;omega)];simp)
  have hc:∀ j,((((w.alloc (.cells #[.pointer (some ⟨t,0,none⟩)] 47)).alloc (.cells #[.pointer (some ⟨11,47,none⟩),.pointer (some ⟨w.heap.size,0,none⟩),.int .u64 150] 66)).alloc (.cells #[.pointer (some ⟨11,47,none⟩),.pointer (some ⟨w.heap.size,0,none⟩),.int .u64 150] 66)).alloc (.cells #[.int .i64 n,.iface 214 (.pointer (some a))] 45)).cell? ⟨t,j,none⟩=w.cell? ⟨t,j,none⟩:=fun j=>((Cd.b3 w _ _ _).alloc (by simp;omega) _).cell (p:=⟨t,j,none⟩) htl
  have hf:∀ j,((((w.alloc (.cells #[.pointer (some ⟨t,0,none⟩)] 47)).alloc (.cells #[.pointer (some ⟨11,47,none⟩),.pointer (some ⟨w.heap.size,0,none⟩),.int .u64 150] 66)).alloc (.cells #[.pointer (some ⟨11,47,none⟩),.pointer (some ⟨w.heap.size,0,none⟩),.int .u64 150] 66)).alloc (.cells #[.int .i64 n,.iface 214 (.pointer (some a))] 45)).frozen? ⟨t,j,none⟩=w.frozen? ⟨t,j,none⟩:=fun j=>by
    rw [World.frozen?_alloc_old _ _ ⟨t,j,none⟩ (by simp;omega),World.frozen?_alloc_old _ _ ⟨t,j,none⟩ (by simp;omega),World.frozen?_alloc_old _ _ ⟨t,j,none⟩ (by simp;omega),World.frozen?_alloc_old _ _ ⟨t,j,none⟩ (Nat.ne_of_lt htl)]
  have st:=Rc.setM t (w.heap.size+1+1+1) n a o0 o1 ((((w.alloc (.cells #[.pointer (some ⟨t,0,none⟩)] 47)).alloc (.cells #[.pointer (some ⟨11,47,none⟩),.pointer (some ⟨w.heap.size,0,none⟩),.int .u64 150] 66)).alloc (.cells #[.pointer (some ⟨11,47,none⟩),.pointer (some ⟨w.heap.size,0,none⟩),.int .u64 150] 66)).alloc (.cells #[.int .i64 n,.iface 214 (.pointer (some a))] 45))
    (by rw [World.cell?_alloc_at _ _ _ _ (by simp)] <;> rfl) (by rw [World.cell?_alloc_at _ _ _ _ (by simp)] <;> rfl) ((hc 0).trans c0.1) ((hc 1).trans c0.2) ((hf 0).trans f0.1) ((hf 1).trans f0.2)
  clear hc hf hb hT hg
  go_enter Tryz.func13,Tryz.ntmps13
  go_wp2
  refine wp_loop_rounds 1 ?_
  rw [rounds_succ]
  go_wp2
  go_ret
  exact ⟨rfl,Rc.frA t _ _ rfl⟩
end Go.Proofs.YtbkhedpabfanoaaGreatDoor
namespace Go.Proofs.YtbkhedpabfanoaaGreatDoor
open Go.RowKit

def Rc.FoPost (s:ByteArray) (w:World) (e:Ending) (w':World):Prop :=
  ((∃ E a cap,e = .returned (.tuple #[.agg #[.slice a E.length cap],.nilIface])∧Rc.Own w.heap.size w' (.slice a E.length cap) E∧Rc.Is s (Rc.fs E))∨(∃ n ea,e = .returned (.tuple #[.agg #[.slice none 0 0],.iface 45 (.agg #[.int .i64 n,.iface 214 (.pointer (some ea))])])∧∀ c,¬ Rc.Is s c))∧Below w.heap.size w w'
set_option maxRecDepth 100000 in
set_option maxHeartbeats 2000000 in
theorem Rc.form_any (s:ByteArray) (w:World) (hs:s.size≤1048576) (hT:Rc.Tb w) :
    Calls Tryz.prog 12 #[.string s] w (Rc.FoPost s w):=by
  obtain ⟨A,HA⟩:∃ A,Hid (w.heap.size=A):=⟨_,(rfl:w.heap.size=_)⟩
  obtain ⟨V,hV⟩:∃ V,(w.alloc (.cells #[.slice none 0 0] 24)).alloc (.cells #[.string s] 61)=V:=⟨_,rfl⟩
  have hbV:Below w.heap.size w V:=by rw [← hV];exact ((Below.refl _ w).alloc (Nat.le_refl _) _).alloc (by simp) _
  have HS0:Hid (Rc.CSt w w (A+1) s A V):=by
    have e1:=MapKept.heap_alloc w (.cells #[.slice none 0 0] 24)
    have e2:=MapKept.heap_alloc (w.alloc (.cells #[.slice none 0 0] 24)) (.cells #[.string s] 61)
    rw [hV] at e2
    have e:=HA.out
    simp only [World.size_alloc,e] at e1 e2
    exact ⟨⟨e2.1,hbV,by omega,hs⟩,(e2.2 A (by omega)).trans e1.1,Rc.Fr.of_below hbV,by omega,by omega,by omega⟩
  have hVs:w.heap.size≤V.heap.size:=hbV.size
  go_enter Tryz.func12,Tryz.ntmps12
  go_wp2_with fail
  rw [HA.out]
  clear hV hbV
  refine (Rc.icode_any w (A+1) s V hT HS0.out.rd).mono ?_
  rintro e w1 ⟨⟨E,a,cap,rfl,hown,his⟩ | ⟨ea,rfl,hno⟩,r1,hR1,hF1⟩
  · have HS1:Hid (∀ o:Obj,Rc.CSt w w (A+1) r1 A (w1.alloc o)):=fun o=>HS0.out.call (hR1.keep (Wc.b1 w1 o)) (hF1.trans (Rc.Fr.of_below (Wc.b1 w1 o)))
    have HO1:Hid (∀ o:Obj,Rc.Own w.heap.size (w1.alloc o) (.slice a E.length cap) E):=fun o=>(hown.mono hVs).below (Wc.b1 w1 o)
    have HIS:Hid (Rc.Is s (Rc.fs E)):=his
    obtain ⟨r0,q0⟩:=Rc.cell1 (HS1.out (.cells #[.slice a E.length cap] 24)).rb
    obtain ⟨U5,hU5,hR5,hF5,d0⟩:=(HS1.out (.cells #[.slice a E.length cap] 24)).fin (.slice a E.length cap)
    have HO5:Hid (Rc.Own w.heap.size U5 (.slice a E.length cap) E):=by rw [Hid,← hU5];exact (HO1.out _).set (HS1.out _).rb
    clear hown his hR1 hF1 HS0
    go_wp2_with fail
    exact bodyPost_ret (v:=.tuple #[.agg #[.slice a E.length cap],.nilIface]) (by simp [results,Tryz.results12,go_sem,d0]) rfl ⟨.inl ⟨E,a,cap,rfl,HO5.out,HIS.out⟩,hR5.bel⟩
  · have HS1:Hid (∀ o:Obj,Rc.CSt w w (A+1) r1 A (w1.alloc o)):=fun o=>HS0.out.call (hR1.keep (Wc.b1 w1 o)) (hF1.trans (Rc.Fr.of_below (Wc.b1 w1 o)))
    have HNO:Hid (∀ c,¬ Rc.Is s c):=hno
    have hr1:=hR1.siz
    clear hno hR1 hF1 HS0
    go_wp2_with fail
    obtain ⟨W2,hW2⟩:∃ V,w1.alloc (.cells #[.slice none 0 0] 24)=V:=⟨_,rfl⟩
    have HS2:Hid (Rc.CSt w w (A+1) r1 A W2):=by rw [Hid,← hW2];exact HS1.out _
    rw [hW2]
    clear hW2 HS1
    have HD:Hid (Rc.CSt w w (A+1) r1 A W2.drew):=HS2.out.call (HS2.out.rd.keep (w':=W2.drew) ⟨rfl,rfl,rfl,Nat.le_refl _,fun _ _=>rfl⟩) ⟨rfl,rfl,rfl,Nat.le_refl _,fun _ _ _=>rfl⟩
    obtain ⟨c0,f0⟩:=Rc.cell1 HS2.out.rd.blk
    obtain ⟨r0,q0⟩:=Rc.cell1 HS2.out.rb
    have hea1:W2.drew.cell? ⟨A+1,0,none⟩=some (.string r1):=c0
    have hea2:(W2.drew.setCell ⟨A,0,none⟩ (.slice none 0 0)).cell? ⟨A+1,0,none⟩=some (.string r1):=by rw [World.cell?_setCell_far _ _ _ _ (by show A≠A+1;omega)];exact hea1
    obtain ⟨U5,hU5,hR5,hF5,d0⟩:=HD.out.fin (.slice none 0 0)
    rw [hU5] at hea2
    obtain ⟨n,hn⟩:∃ n,IntKind.i64.wrap ((s.size:Int) - (r1.size:Int))=n:=⟨_,rfl⟩
    go_region_held3 (fun W=>W.cell? ⟨A+1,0,none⟩=some (.string r1)) (with_reducible first | exact hea1 | exact hea2) (fail)
    go_wp2_with fail
    exact bodyPost_ret (v:=.tuple #[.agg #[.slice none 0 0],.iface 45 (.agg #[.int .i64 n,.iface 214 (.pointer (some ea))])]) (by simp [results,Tryz.results12,go_sem,d0]) rfl ⟨.inr ⟨_,ea,rfl,HNO.out⟩,hR5.bel⟩
set_option maxRecDepth 100000 in
set_option maxHeartbeats 2000000 in
theorem Rc.implRead_any (s:ByteArray) (w:World) (hs:s.size≤1048576) (hT:Rc.Tb w) :
    Calls Tryz.prog 5 #[.string s] w (Rc.ReadPost s w):=by
  obtain ⟨A,HA⟩:∃ A,Hid (w.heap.size=A):=⟨_,(rfl:w.heap.size=_)⟩
  obtain ⟨V,hV⟩:∃ V,w.alloc (.cells #[.slice none 0 0] 24)=V:=⟨_,rfl⟩
  have hbV:Below w.heap.size w V:=by rw [← hV];exact Wc.b1 w _
  have HVA:Hid (V.heap[A]? = some (.cells #[.slice none 0 0] 24)):=by rw [Hid,← hV,← HA.out];exact (MapKept.heap_alloc w _).1
  go_enter Tryz.func5,Tryz.ntmps5
  go_wp2_with fail
  rw [HA.out]
  clear hV
  refine (Rc.form_any s V hs (hT.below hbV)).mono ?_
  rintro e w1 ⟨⟨E,a,cap,rfl,hown,his⟩ | ⟨n,ea,rfl,hno⟩,hb1⟩
  · have hbD:Below w1.heap.size w1 ((w1.alloc (.cells #[.slice a E.length cap] 24)).alloc (.cells #[.int .i64 0,.nilIface] 45)):=((Below.refl _ w1).alloc (Nat.le_refl _) _).alloc (by simp) _
    go_wp2_with fail
    refine (Rc.as_nil _ _).mono ?_
    rintro e w2 ⟨rfl,rfl⟩
    obtain ⟨W,hW⟩:∃ V,(w1.alloc (.cells #[.slice a E.length cap] 24)).alloc (.cells #[.int .i64 0,.nilIface] 45)=V:=⟨_,rfl⟩
    have HIS:Hid (Rc.Is s (Rc.fs E)):=his
    have HO:Hid (Rc.Own w.heap.size W (.slice a E.length cap) E):=by rw [Hid,← hW];exact (hown.mono hbV.size).below hbD
    have HB:Hid (Below A w W):=by rw [Hid,← hW,← HA.out];exact (hbV.trans (hb1.mono hbV.size)).trans (hbD.mono (Nat.le_trans hbV.size hb1.size))
    have HRA:Hid (W.heap[A]? = some (.cells #[.slice none 0 0] 24)):=by
      have h1:=(hb1.block A (Array.getElem?_eq_some_iff.1 HVA.out).1).trans HVA.out
      rw [Hid,← hW]
      exact (hbD.block A (Array.getElem?_eq_some_iff.1 h1).1).trans h1
    have hC:W.heap[w1.heap.size]? = some (.cells #[.slice a E.length cap] 24):=by
      have e1:=MapKept.heap_alloc w1 (.cells #[.slice a E.length cap] 24)
      have e2:=MapKept.heap_alloc (w1.alloc (.cells #[.slice a E.length cap] 24)) (.cells #[.int .i64 0,.nilIface] 45)
      rw [hW] at e2
      exact (e2.2 w1.heap.size (by simp)).trans e1.1
    obtain ⟨x0,y0⟩:=Rc.cell1 hC
    obtain ⟨r0,q0⟩:=Rc.cell1 HRA.out
    rw [hW]
    clear hW hC hown his hb1 hbV hbD HVA
    have d0:=(Rc.cell1 (a:=.slice a E.length cap) (Rc.set_same (i:=0) (v:=.slice a E.length cap) HRA.out)).1
    have HO5:Hid (Rc.Own w.heap.size (W.setCell ⟨A,0,none⟩ (.slice a E.length cap)) (.slice a E.length cap) E):=HO.out.set HRA.out
    have HB5:Hid (Below w.heap.size w (W.setCell ⟨A,0,none⟩ (.slice a E.length cap))):=by
      rw [Hid,HA.out];exact HB.out.trans ⟨rfl,rfl,rfl,by simp [World.setCell],fun k hk=>Rc.set_oth (by omega)⟩
    obtain ⟨U5,hU5⟩:∃ U,W.setCell ⟨A,0,none⟩ (.slice a E.length cap)=U:=⟨_,rfl⟩
    rw [hU5] at d0 HO5 HB5
    go_wp2_with fail
    exact bodyPost_ret (v:=.tuple #[.agg #[.slice a E.length cap],.bool true]) (by simp [results,Tryz.results5,go_sem,d0]) rfl ⟨.inl ⟨E,a,cap,rfl,HO5.out,HIS.out⟩,HB5.out⟩
  · have HNO:Hid (∀ c,¬ Rc.Is s c):=hno
    have hbD:Below w1.heap.size w1 ((w1.alloc (.cells #[.slice none 0 0] 24)).alloc (.cells #[.int .i64 0,.nilIface] 45)):=((Below.refl _ w1).alloc (Nat.le_refl _) _).alloc (by simp) _
    have hbm:((w1.alloc (.cells #[.slice none 0 0] 24)).alloc (.cells #[.int .i64 0,.nilIface] 45)).heap[w1.heap.size+1]? = some (.cells #[.int .i64 0,.nilIface] 45):=by
      have e2:=(MapKept.heap_alloc (w1.alloc (.cells #[.slice none 0 0] 24)) (.cells #[.int .i64 0,.nilIface] 45)).1
      rw [World.size_alloc] at e2
      exact e2
    have hbw:Below w.heap.size w ((w1.alloc (.cells #[.slice none 0 0] 24)).alloc (.cells #[.int .i64 0,.nilIface] 45)):=(hbV.trans (hb1.mono hbV.size)).trans (hbD.mono (Nat.le_trans hbV.size hb1.size))
    have h1:=(hb1.block A (Array.getElem?_eq_some_iff.1 HVA.out).1).trans HVA.out
    have hAl:=(Array.getElem?_eq_some_iff.1 h1).1
    have h2:=(hbD.block A hAl).trans h1
    have hsz:=hbD.size
    go_wp2_with fail
    refine (Rc.as_hit n ea (w1.heap.size+1) _ _ _ (hT.below hbw) hbm).mono ?_
    rintro e w2 ⟨rfl,hF2⟩
    have HRA:Hid (w2.heap[A]? = some (.cells #[.slice none 0 0] 24)):=(hF2.keep A (by omega) (by omega)).trans h2
    have HB:Hid (Below A w w2):=by
      rw [Hid,← HA.out]
      exact hbw.trans (hF2.below (by have:=HA.out;omega) (fun k hk=>by have:=HA.out;omega))
    obtain ⟨r0,q0⟩:=Rc.cell1 HRA.out
    clear hF2 h2 h1 hbw hbm hbD hb1 hbV HVA hno
    have d0:=(Rc.cell1 (a:=.slice none 0 0) (Rc.set_same (i:=0) (v:=.slice none 0 0) HRA.out)).1
    have HB5:Hid (Below w.heap.size w (w2.setCell ⟨A,0,none⟩ (.slice none 0 0))):=by
      rw [Hid,HA.out];exact HB.out.trans ⟨rfl,rfl,rfl,by simp [World.setCell],fun k hk=>Rc.set_oth (by omega)⟩
    obtain ⟨U5,hU5⟩:∃ U,w2.setCell ⟨A,0,none⟩ (.slice none 0 0)=U:=⟨_,rfl⟩
    rw [hU5] at d0 HB5
    go_wp2_with fail
    exact bodyPost_ret (v:=.tuple #[.agg #[.slice none 0 0],.bool false]) (by simp [results,Tryz.results5,go_sem,d0]) rfl ⟨.inr ⟨rfl,HNO.out⟩,HB5.out⟩
end Go.Proofs.YtbkhedpabfanoaaGreatDoor
