import Derived.Test.YtbkhedpabfanoaaGreatDoorKCdM
import Derived.Test.YtbkhedpabfanoaaGreatDoorKCdH
import Derived.Maps.AppendAt
import Derived.Test.YtbkhedpabfanoaaGreatDoorKCdJ
namespace Go.Proofs.YtbkhedpabfanoaaGreatDoor
open Go.RowKit

theorem Cd.insOk_op {c:List Cd.Fn} {f:Cd.Fn} {i:Cd.Ins} (h:Cd.insOk c f i=true):1≤i.op∧i.op≤16:=by
  by_cases hc:Cd.inR i.op 1 16=true
  · exact Cd.inR_of hc
  · unfold Cd.insOk at h
    rw [if_pos (.inl (by simpa using hc))] at h
    simp at h
theorem Cd.insOk_clean {c:List Cd.Fn} {f:Cd.Fn} {i:Cd.Ins} (h:Cd.insOk c f i=true) (h1:i.op≠1):i.n=0∧i.text.toList.isEmpty=true:=by
  constructor
  · refine Classical.byContradiction (fun hn => ?_)
    rw [Cd.insOk_bad c f i h1 (.inl hn)] at h
    simp at h
  · cases hx:i.text.toList.isEmpty with
    | true=>rfl
    | false =>
      rw [Cd.insOk_bad c f i h1 (.inr hx)] at h
      simp at h
theorem Cd.size3 (n:Nat):n=0∨n=1∨∃ m,n=m+2:=by
  cases n with
  | zero=>exact .inl rfl
  | succ n=>cases n with
    | zero=>exact .inr (.inl rfl)
    | succ m=>exact .inr (.inr ⟨m,rfl⟩)
theorem Cd.gives_any (c:List Cd.Fn) (f:Cd.Fn) (i:Cd.Ins) (s k:List Int) (ca ia sa ka:Option Addr) (cc ic sc kc:Nat) (pv:Value) (hcl:c.length≤60) (hil:f.ins.length≤50000) (hsl:s.length≤200) (hk600:k.length≤600) (hkc:k.length≤kc) (hka:ka=none∨∃ g,ka=some ⟨g,0,none⟩) (hsf:(s.length:Int)=f.slots) (hpl:∀ g ∈ c,g.params.length≤8) (hok:Cd.insOk c f i=true) (w:World) (hC:Cd.CodeAt w.heap.size w (.slice ca c.length cc) c) (hS:Cd.IntsAt w.heap.size w (.slice sa s.length sc) s) (hK:Cd.IntsAt w.heap.size w (.slice ka k.length kc) k) :
    Calls Tryz.prog 65 #[.agg #[.slice ca c.length cc],Cd.fnV f pv (.slice ia f.ins.length ic),Cd.insV i,Cd.shV 1 (.slice sa s.length sc) (.slice ka k.length kc)] w (Cd.GivesIs c f i s k w):=by
  have hop:=Cd.insOk_op hok
  have hcl':i.op≠1→i.n=0∧i.text.toList.isEmpty=true:=fun h=>Cd.insOk_clean hok h
  obtain ⟨op,a,n,text⟩:=i
  simp only at hop hcl'
  have h16:op=1∨op=2∨op=3∨op=4∨op=5∨op=6∨op=7∨op=8∨op=9∨op=10∨op=11∨op=12∨op=13∨op=14∨op=15∨op=16:=by omega
  have hk3:=Cd.size3 k.length
  rcases h16 with rfl | rfl | rfl | rfl | rfl | rfl | rfl | rfl | rfl | rfl | rfl | rfl | rfl | rfl | rfl | rfl
  · skip
    rcases hk3 with h | h | ⟨m,h⟩
    · exact Cd.gives_1A c f a n text s k ca ia sa ka cc ic sc kc pv hcl hil hsl h hk600 w hS hK
    · exact Cd.gives_1B c f a n text s k ca ia sa ka cc ic sc kc pv hcl hil hsl h hk600 w hS hK
    · exact Cd.gives_1C c f a n text s k m ca ia sa ka cc ic sc kc pv hcl hil hsl h hk600 w hS hK
  · skip
    obtain ⟨rfl,hx⟩:=hcl' (by decide)
    rw [Cd.insOk_eq2 c f a text hx] at hok
    have hb:=Cd.inR_of hok
    rcases hk3 with h | h | ⟨m,h⟩
    · exact Cd.gives_2A c f a 0 text s k ca ia sa ka cc ic sc kc pv hcl hil hsl h hk600 hb.1 (by omega) w hS hK
    · exact Cd.gives_2B c f a 0 text s k ca ia sa ka cc ic sc kc pv hcl hil hsl h hk600 hb.1 (by omega) w hS hK
    · exact Cd.gives_2C c f a 0 text s k m ca ia sa ka cc ic sc kc pv hcl hil hsl h hk600 hb.1 (by omega) w hS hK
  · skip
    obtain ⟨rfl,hx⟩:=hcl' (by decide)
    rcases hk3 with h | h | ⟨m,h⟩
    · exact Cd.gives_NA 3 (by omega) c f a 0 text s k ca ia sa ka cc ic sc kc pv hcl hil hsl h hk600 w hS hK
    · exact Cd.gives_NB 3 (by omega) c f a 0 text s k ca ia sa ka cc ic sc kc pv hcl hil hsl h hk600 w hS hK
    · exact Cd.gives_NC 3 (by omega) c f a 0 text s k m ca ia sa ka cc ic sc kc pv hcl hil hsl h hk600 w hS hK
  · skip
    obtain ⟨rfl,hx⟩:=hcl' (by decide)
    rcases hk3 with h | h | ⟨m,h⟩
    · exact Cd.gives_NA 4 (by omega) c f a 0 text s k ca ia sa ka cc ic sc kc pv hcl hil hsl h hk600 w hS hK
    · exact Cd.gives_NB 4 (by omega) c f a 0 text s k ca ia sa ka cc ic sc kc pv hcl hil hsl h hk600 w hS hK
    · exact Cd.gives_NC 4 (by omega) c f a 0 text s k m ca ia sa ka cc ic sc kc pv hcl hil hsl h hk600 w hS hK
  · skip
    obtain ⟨rfl,hx⟩:=hcl' (by decide)
    rcases hk3 with h | h | ⟨m,h⟩
    · exact Cd.gives_5A c f a 0 text s k ca ia sa ka cc ic sc kc pv hcl hil hsl h hk600 w hS hK
    · exact Cd.gives_5B c f a 0 text s k ca ia sa ka cc ic sc kc pv hcl hil hsl h hk600 w hS hK
    · exact Cd.gives_5C c f a 0 text s k m ca ia sa ka cc ic sc kc pv hcl hil hsl h hk600 w hS hK
  · skip
    obtain ⟨rfl,hx⟩:=hcl' (by decide)
    rcases hk3 with h | h | ⟨m,h⟩
    · exact Cd.gives_6A c f a 0 text s k ca ia sa ka cc ic sc kc pv hcl hil hsl h hk600 w hS hK
    · exact Cd.gives_6B c f a 0 text s k ca ia sa ka cc ic sc kc pv hcl hil hsl h hk600 w hS hK
    · exact Cd.gives_6C c f a 0 text s k m ca ia sa ka cc ic sc kc pv hcl hil hsl h hk600 w hS hK
  · skip
    obtain ⟨rfl,hx⟩:=hcl' (by decide)
    rcases hk3 with h | h | ⟨m,h⟩
    · exact Cd.gives_7A c f a 0 text s k ca ia sa ka cc ic sc kc pv hcl hil hsl h hk600 w hS hK
    · exact Cd.gives_7B c f a 0 text s k ca ia sa ka cc ic sc kc pv hcl hil hsl h hk600 w hS hK
    · exact Cd.gives_7C c f a 0 text s k m ca ia sa ka cc ic sc kc pv hcl hil hsl h hk600 w hS hK
  · skip
    obtain ⟨rfl,hx⟩:=hcl' (by decide)
    rw [Cd.insOk_eq8 c f a text hx] at hok
    have hb:=Cd.inR_of hok
    rcases hk3 with h | h | ⟨m,h⟩
    · by_cases hf:k.length < (Cd.want a).length
      · exact Cd.gives_8fA c f a 0 text s k ca ia sa ka cc ic sc kc pv hcl hil hsl h hk600 hb.1 hb.2 hf w hS hK
      · exact Cd.gives_8A c f a 0 text s k ca ia sa ka cc ic sc kc pv hcl hil hsl h hk600 hb.1 hb.2 (by omega) hkc hka w hS hK
    · by_cases hf:k.length < (Cd.want a).length
      · exact Cd.gives_8fB c f a 0 text s k ca ia sa ka cc ic sc kc pv hcl hil hsl h hk600 hb.1 hb.2 hf w hS hK
      · exact Cd.gives_8B c f a 0 text s k ca ia sa ka cc ic sc kc pv hcl hil hsl h hk600 hb.1 hb.2 (by omega) hkc w hS hK
    · by_cases hf:k.length < (Cd.want a).length
      · exact Cd.gives_8fC c f a 0 text s k m ca ia sa ka cc ic sc kc pv hcl hil hsl h hk600 hb.1 hb.2 hf w hS hK
      · exact Cd.gives_8C c f a 0 text s k m ca ia sa ka cc ic sc kc pv hcl hil hsl h hk600 hb.1 hb.2 (by omega) hkc w hS hK
  · skip
    obtain ⟨rfl,hx⟩:=hcl' (by decide)
    rw [Cd.insOk_eq9 c f a text hx] at hok
    have hb:=Cd.inR_of hok
    rcases hk3 with h | h | ⟨m,h⟩
    · by_cases hf:k.length < (c.getD a.toNat Cd.noFn).params.length
      · exact Cd.gives_9fA c f a 0 text s k ca ia sa ka cc ic sc kc pv hcl hil hsl h hk600 hb.1 (by omega) hpl hf w hC hS hK
      · exact Cd.gives_9A c f a 0 text s k ca ia sa ka cc ic sc kc pv hcl hil hsl h hk600 hb.1 (by omega) hpl (by omega) w hC hS hK
    · by_cases hf:k.length < (c.getD a.toNat Cd.noFn).params.length
      · exact Cd.gives_9fB c f a 0 text s k ca ia sa ka cc ic sc kc pv hcl hil hsl h hk600 hb.1 (by omega) hpl hf w hC hS hK
      · exact Cd.gives_9B c f a 0 text s k ca ia sa ka cc ic sc kc pv hcl hil hsl h hk600 hb.1 (by omega) hpl (by omega) w hC hS hK
    · by_cases hf:k.length < (c.getD a.toNat Cd.noFn).params.length
      · exact Cd.gives_9fC c f a 0 text s k m ca ia sa ka cc ic sc kc pv hcl hil hsl h hk600 hb.1 (by omega) hpl hf w hC hS hK
      · exact Cd.gives_9C c f a 0 text s k m ca ia sa ka cc ic sc kc pv hcl hil hsl h hk600 hb.1 (by omega) hpl (by omega) w hC hS hK
  · skip
    obtain ⟨rfl,hx⟩:=hcl' (by decide)
    rcases hk3 with h | h | ⟨m,h⟩
    · exact Cd.gives_NA 10 (by omega) c f a 0 text s k ca ia sa ka cc ic sc kc pv hcl hil hsl h hk600 w hS hK
    · exact Cd.gives_NB 10 (by omega) c f a 0 text s k ca ia sa ka cc ic sc kc pv hcl hil hsl h hk600 w hS hK
    · exact Cd.gives_NC 10 (by omega) c f a 0 text s k m ca ia sa ka cc ic sc kc pv hcl hil hsl h hk600 w hS hK
  · skip
    obtain ⟨rfl,hx⟩:=hcl' (by decide)
    rcases hk3 with h | h | ⟨m,h⟩
    · exact Cd.gives_NA 11 (by omega) c f a 0 text s k ca ia sa ka cc ic sc kc pv hcl hil hsl h hk600 w hS hK
    · exact Cd.gives_NB 11 (by omega) c f a 0 text s k ca ia sa ka cc ic sc kc pv hcl hil hsl h hk600 w hS hK
    · exact Cd.gives_NC 11 (by omega) c f a 0 text s k m ca ia sa ka cc ic sc kc pv hcl hil hsl h hk600 w hS hK
  · skip
    obtain ⟨rfl,hx⟩:=hcl' (by decide)
    rw [Cd.insOk_eq12 c f a text hx] at hok
    have hb:a=0∨a=1:=by
      by_cases h0:a=0
      · exact .inl h0
      · by_cases h1:a=1
        · exact .inr h1
        · simp [h0,h1] at hok
    rcases hk3 with h | h | ⟨m,h⟩
    · rcases hb with rfl | rfl
      · exact Cd.gives_12A0 c f 0 text s k ca ia sa ka cc ic sc kc pv hcl hil hsl h hk600 w hS hK
      · exact Cd.gives_12A1 c f 0 text s k ca ia sa ka cc ic sc kc pv hcl hil hsl h hk600 w hS hK
    · rcases hb with rfl | rfl
      · exact Cd.gives_12B0 c f 0 text s k ca ia sa ka cc ic sc kc pv hcl hil hsl h hk600 w hS hK
      · exact Cd.gives_12B1 c f 0 text s k ca ia sa ka cc ic sc kc pv hcl hil hsl h hk600 w hS hK
    · rcases hb with rfl | rfl
      · exact Cd.gives_12C0 c f 0 text s k m ca ia sa ka cc ic sc kc pv hcl hil hsl h hk600 w hS hK
      · exact Cd.gives_12C1 c f 0 text s k m ca ia sa ka cc ic sc kc pv hcl hil hsl h hk600 w hS hK
  · skip
    obtain ⟨rfl,hx⟩:=hcl' (by decide)
    rcases hk3 with h | h | ⟨m,h⟩
    · exact Cd.gives_NA 13 (by omega) c f a 0 text s k ca ia sa ka cc ic sc kc pv hcl hil hsl h hk600 w hS hK
    · exact Cd.gives_NB 13 (by omega) c f a 0 text s k ca ia sa ka cc ic sc kc pv hcl hil hsl h hk600 w hS hK
    · exact Cd.gives_NC 13 (by omega) c f a 0 text s k m ca ia sa ka cc ic sc kc pv hcl hil hsl h hk600 w hS hK
  · skip
    obtain ⟨rfl,hx⟩:=hcl' (by decide)
    rcases hk3 with h | h | ⟨m,h⟩
    · exact Cd.gives_NA 14 (by omega) c f a 0 text s k ca ia sa ka cc ic sc kc pv hcl hil hsl h hk600 w hS hK
    · exact Cd.gives_14B c f a 0 text s k ca ia sa ka cc ic sc kc pv hcl hil hsl h hk600 w hS hK
    · exact Cd.gives_14C c f a 0 text s k m ca ia sa ka cc ic sc kc pv hcl hil hsl h hk600 w hS hK
  · skip
    obtain ⟨rfl,hx⟩:=hcl' (by decide)
    rcases hk3 with h | h | ⟨m,h⟩
    · exact Cd.gives_NA 15 (by omega) c f a 0 text s k ca ia sa ka cc ic sc kc pv hcl hil hsl h hk600 w hS hK
    · exact Cd.gives_NB 15 (by omega) c f a 0 text s k ca ia sa ka cc ic sc kc pv hcl hil hsl h hk600 w hS hK
    · exact Cd.gives_NC 15 (by omega) c f a 0 text s k m ca ia sa ka cc ic sc kc pv hcl hil hsl h hk600 w hS hK
  · skip
    obtain ⟨rfl,hx⟩:=hcl' (by decide)
    rcases hk3 with h | h | ⟨m,h⟩
    · exact Cd.gives_NA 16 (by omega) c f a 0 text s k ca ia sa ka cc ic sc kc pv hcl hil hsl h hk600 w hS hK
    · exact Cd.gives_NB 16 (by omega) c f a 0 text s k ca ia sa ka cc ic sc kc pv hcl hil hsl h hk600 w hS hK
    · exact Cd.gives_NC 16 (by omega) c f a 0 text s k m ca ia sa ka cc ic sc kc pv hcl hil hsl h hk600 w hS hK
end Go.Proofs.YtbkhedpabfanoaaGreatDoor
namespace Go.Proofs.YtbkhedpabfanoaaGreatDoor
open Go.RowKit

theorem Cd.run_append_zero {P:Program} {w:World} (base:Nat) (t ty e:TypeId) (i:TypeInfo) (size:Nat) (ht:P.underlying t=some (.slice e)) (hi:P.info? e=some i) (v:Value) (n:Nat) (xs:List Value) (hown:w.ownsRow base e size v n xs) (ao:Option Addr) (c:Nat) :
    (Builtin.append_ #[t,t] ty #[v,.slice ao 0 c]).run P w = .ok v w:=by
  rcases hown.2 with ⟨rfl,rfl⟩ | ⟨g,cap,cur,rfl,_,_,hnc,_⟩
  · cases ao <;> simp [Builtin.append_,run_underlying ht,sizeOf,typeInfo,hi,Builtin.lenOf,Builtin.firstCells,loadCells,loadCellsFrom]
  · cases ao <;> simp [Builtin.append_,run_underlying ht,sizeOf,typeInfo,hi,Builtin.lenOf,Builtin.firstCells,hnc,storeCells,loadCells,loadCellsFrom]
theorem Cd.ints_one {xs:List Int}:∀ u ∈ Cd.ints xs,u.oneCell'=true:=by
  intro u hu
  obtain ⟨z,_,rfl⟩:=List.mem_map.1 hu
  rfl
theorem Cd.ints_app (a b:List Int):Cd.ints (a++b)=Cd.ints a++Cd.ints b:=List.map_append ..
theorem Cd.run_append_ints {P:Program} {w:World} (base:Nat) (t ty e:TypeId) (i:TypeInfo) (z:Value) (ht:P.underlying t=some (.slice e)) (hi:P.info? e=some i) (hz:i.zero=some z) (hsize:i.size=1) (hby:i.bytes=8) (hzs:z.cells.size=1)
    (v:Value) (n:Nat) (xs:List Int) (hown:w.ownsRow base e 1 v n (Cd.ints xs)) (C:Nat) (src:Value) (news:List Int) (hsrc:Cd.IntsAt C w src news) (hsmall:n+news.length≤1048576) (hbase:base≤w.heap.size) :
    ∃ v' w',(Builtin.append_ #[t,t] ty #[v,src]).run P w = .ok v' w'∧w'.ownsRow base e 1 v' (n+news.length) (Cd.ints (xs++news))∧w.grownBy w' v.ownBlock:=by
  obtain ⟨ao,c,rfl,hc⟩:=hsrc
  by_cases h0:news.length=0
  · have hn:news=[]:=List.eq_nil_of_length_eq_zero h0
    subst hn
    refine ⟨v,w,Cd.run_append_zero base t ty e i 1 ht hi v n _ hown ao c, ?_,⟨rfl,rfl,rfl,Nat.le_refl _,fun _ _ _=>rfl⟩⟩
    simpa using hown
  · obtain ⟨g,o,rfl,_,_⟩:=hc 0 (by omega)
    obtain ⟨v',w',h1,h2,h3,_⟩:=run_append_own_at (P:=P) (w:=w) base t ty e i z 1 8 ht hi hz hsize hby hzs (by decide) v n (Cd.ints xs) hown ⟨g,o,none⟩ news.length c (Cd.ints news) (by simp [Cd.ints]) (fun j u hu=>by
      have hj:j < news.length:=by have:=List.getElem?_eq_some_iff.1 hu;obtain ⟨h,_⟩:=this;simpa [Cd.ints] using h
      obtain ⟨g2,o2,e2,_,hcell⟩:=hc j hj
      injection e2 with e2;injection e2 with e3 e4
      subst e3 e4
      have hu2:u = .int .i64 news[j]:=by simpa [Cd.ints,List.getElem?_eq_getElem hj] using hu.symm
      rw [hu2];by_cases hj0:j=0
      · subst hj0;simpa [Addr.add] using hcell
      · simpa [Addr.add,hj0] using hcell) Cd.ints_one (by unfold maxLen;omega) (by omega) hbase
    exact ⟨v',w',h1,by rw [Cd.ints_app];exact h2,h3⟩
theorem Cd.wp_append_ints {P:Program} {w:World} {ops:Array Oper} {rest:List Oper} {o:Oper} {a:Act} {Q:Exit→Act→World→Prop} (hgd:o.guard=none) (s x:Operand) (t:TypeId)
    (ho:o.op = .call { callee:=.builtin .append,args := #[s,x],argTypes := #[t,t] }) (base:Nat) (e:TypeId) (i:TypeInfo) (z:Value) (ht:P.underlying t=some (.slice e)) (hi:P.info? e=some i) (hz:i.zero=some z) (hsize:i.size=1) (hby:i.bytes=8) (hzs:z.cells.size=1)
    (v:Value) (n:Nat) (xs:List Int) (hs:a.eval s=v) (hown:w.ownsRow base e 1 v n (Cd.ints xs)) (C:Nat) (src:Value) (hx:a.eval x=src) (news:List Int) (hsrc:Cd.IntsAt C w src news) (hsmall:n+news.length≤1048576) (hbase:base≤w.heap.size)
    (h:∀ v' w',w'.ownsRow base e 1 v' (n+news.length) (Cd.ints (xs++news))→w.grownBy w' v.ownBlock→wpList P ops Q rest (a.put o.dst v') w') :
    wpList P ops Q (o::rest) a w:=by
  refine wpList_plain hgd fun K hK => ?_
  obtain ⟨v',w',hr,h2,h3⟩:=Cd.run_append_ints (P:=P) (w:=w) base t o.type e i z ht hi hz hsize hby hzs v n xs hown C src news hsrc hsmall hbase
  unfold Oper.wp execOp
  simp only [ho,resolve,invoke,builtin,Sem.run_bind,Sem.run_pure,Result.andThen_ok,List.map_toArray,List.map_cons,List.map_nil,hs,hx,hr]
  exact hK _ _ (h v' w' h2 h3)
theorem Cd.own_new (w:World) (B:Nat) (hB:B≤w.heap.size) (e:TypeId):(w.alloc (.cells #[] e)).ownsRow B e 1 (.slice (some ⟨w.heap.size,0,none⟩) 0 0) 0 (Cd.ints []) :=
  ⟨rfl,.inr ⟨w.heap.size,0,#[],rfl,hB,Cd.new_at w _,by omega,by unfold maxLen;omega,rfl,rfl⟩⟩
theorem Cd.keepH {Y:World} (o:Obj) {g:Nat} {x:Obj} (h:Y.heap[g]? = some x):(Y.alloc o).heap[g]? = some x:=by
  have hlt:g < Y.heap.size:=(Array.getElem?_eq_some_iff.1 h).1
  rw [(MapKept.heap_alloc Y _).2 g hlt]
  exact h
theorem Cd.rowLen {w:World} {B e size n:Nat} {v:Value} {xs:List Value} (h:w.ownsRow B e size v n xs):∃ a cap,v = .slice a n cap:=by
  rcases h.2 with ⟨rfl,h0⟩ | ⟨g,cap,cur,rfl,_⟩
  · exact ⟨none,0,by rw [h0]⟩
  · exact ⟨_,_,rfl⟩
theorem Cd.rowBlk {w:World} {B e size n:Nat} {v:Value} {xs:List Value} (h:w.ownsRow B e size v n xs) {g:Nat} (hg:g < B):v.ownBlock≠some g:=by
  rcases h.2 with ⟨rfl,h0⟩ | ⟨g',cap,cur,rfl,hb,_⟩
  · simp [Value.ownBlock]
  · simp only [Value.ownBlock,ne_eq,Option.some.injEq];omega
theorem Tryz.infoIntC : (Tryz.prog.info? 3).map (fun i=>(i.zero,i.size,i.bytes))=some (some (.int .i64 0),1,8):=by kernel_rfl
theorem Cd.int_info : ∃ i,Tryz.prog.info? 3=some i∧i.zero=some (.int .i64 0)∧i.size=1∧i.bytes=8:=by
  have h:=Tryz.infoIntC
  cases hi:Tryz.prog.info? 3 with
  | none=>rw [hi] at h;simp at h
  | some i=>rw [hi] at h;simp at h;exact ⟨i,rfl,h.1,h.2.1,h.2.2⟩
theorem Cd.grown_blk {W1 Wx w3:World} {g:Nat} {X:Obj} {row:Option Nat} (o:Obj) (h:W1.heap[g]? = some X) (hx:Wx.heap=W1.heap.push o) (hg:Wx.grownBy w3 row) (hne:row≠some g):w3.heap[g]? = some X:=by
  have hlt:g < W1.heap.size:=(Array.getElem?_eq_some_iff.1 h).1
  have hz:W1.heap.size+1=Wx.heap.size:=by rw [hx,Array.size_push]
  rw [hg.block g (by omega) (fun e=>hne e.symm),hx,Array.getElem?_push_lt hlt,← Array.getElem?_eq_getElem hlt];exact h
theorem Cd.Below.grown {B:Nat} {a w w':World} {row:Option Nat} (h:Below B a w) (hg:w.grownBy w' row) (hB:B≤w.heap.size) (hr:∀ k,k < B→row≠some k):Below B a w' :=
  ⟨hg.os.trans h.os,hg.tape.trans h.tape,hg.output.trans h.output,Nat.le_trans h.size hg.size,fun k hk=>(hg.block k (Nat.lt_of_lt_of_le hk hB) (fun e=>hr k hk e.symm)).trans (h.block k hk)⟩
theorem Cd.IntsAt.keep {B C:Nat} {w w':World} {v:Value} {ns:List Int} (h:Cd.IntsAt B w v ns) (hk:∀ k,v.ownBlock=some k→w'.heap[k]? = w.heap[k]?) (hC:B≤C):Cd.IntsAt C w' v ns:=by
  obtain ⟨a,cap,rfl,hc⟩:=h
  refine ⟨a,cap,rfl,fun i hi => ?_⟩
  obtain ⟨g,o,ha,hg,hcell⟩:=hc i hi
  refine ⟨g,o,ha,by omega, ?_⟩
  rw [World.cell?_of_block (hk g (by rw [ha];rfl))];exact hcell
end Go.Proofs.YtbkhedpabfanoaaGreatDoor
namespace Go.Proofs.YtbkhedpabfanoaaGreatDoor
open Go.RowKit

def Cd.typed (B:Nat) (w:World) (v:Value):Prop := ∀ g,v.ownBlock=some g→g < B∧∃ cur fr,w.heap[g]? = some (.cells cur 3 fr)
theorem Cd.typed.own {w:World} {B C n:Nat} {v:Value} {xs:List Value} (h:w.ownsRow B 3 1 v n xs) (hC:w.heap.size≤C):Cd.typed C w v:=by
  intro g hg
  rcases h.2 with ⟨rfl,_⟩ | ⟨g',cap,cur,rfl,_,hh,_⟩
  · simp [Value.ownBlock] at hg
  · simp only [Value.ownBlock,Option.some.injEq] at hg
    subst hg
    exact ⟨Nat.lt_of_lt_of_le (Array.getElem?_eq_some_iff.1 hh).1 hC,cur,_,hh⟩
theorem Cd.typed.keep {B C:Nat} {w w':World} {v:Value} (h:Cd.typed B w v) (hk:∀ k,v.ownBlock=some k→w'.heap[k]? = w.heap[k]?) (hC:B≤C):Cd.typed C w' v:=fun g hg=>by
  obtain ⟨h1,cur,fr,h2⟩:=h g hg
  exact ⟨by omega,cur,fr,(hk g hg).trans h2⟩
theorem Cd.typed.below {B:Nat} {w w':World} {v:Value} (h:Cd.typed B w v) (hb:Below B w w'):Cd.typed B w' v:=h.keep (fun k hk=>hb.block k (h k hk).1) (Nat.le_refl _)
theorem Cd.typed.nil (B:Nat) (w:World):Cd.typed B w (.slice none 0 0):=fun g hg=>by simp [Value.ownBlock] at hg
def Cd.ShAt (B:Nat) (w:World) (v:Value):Cd.Sh→Prop
  | .none=>v=Cd.shV 0 (.slice none 0 0) (.slice none 0 0)
  | .clash=>v=Cd.shV 2 (.slice none 0 0) (.slice none 0 0)
  | .known s k => ∃ sa sc ka kc,v=Cd.shV 1 (.slice sa s.length sc) (.slice ka k.length kc)∧k.length≤kc∧(ka=none∧kc=0∨∃ g,ka=some ⟨g,0,none⟩)∧Cd.IntsAt B w (.slice sa s.length sc) s∧Cd.IntsAt B w (.slice ka k.length kc) k∧Cd.typed B w (.slice sa s.length sc)∧Cd.typed B w (.slice ka k.length kc)
theorem Cd.ShAt.keep {B C:Nat} {w w':World} (hC:B≤C):∀ {v:Value} {sh:Cd.Sh},Cd.ShAt B w v sh→(∀ st sv kv,v=Cd.shV st sv kv→∀ k,(sv.ownBlock=some k∨kv.ownBlock=some k)→w'.heap[k]? = w.heap[k]?)→Cd.ShAt C w' v sh
  | _,.none,h,_=>h
  | _,.clash,h,_=>h
  | _,.known _ _,h,hk=>by
    obtain ⟨sa,sc,ka,kc,rfl,h2,h3,h4,h5,h6,h7⟩:=h
    exact ⟨sa,sc,ka,kc,rfl,h2,h3,h4.keep (fun k h=>hk _ _ _ rfl k (.inl h)) hC,h5.keep (fun k h=>hk _ _ _ rfl k (.inr h)) hC,h6.keep (fun k h=>hk _ _ _ rfl k (.inl h)) hC,h7.keep (fun k h=>hk _ _ _ rfl k (.inr h)) hC⟩
theorem Cd.ShAt.below {B:Nat} {w w':World} {v:Value} (hb:Below B w w'):∀ {sh:Cd.Sh},Cd.ShAt B w v sh→Cd.ShAt B w' v sh
  | .none,h=>h
  | .clash,h=>h
  | .known _ _,h=>by
    obtain ⟨sa,sc,ka,kc,h1,h2,h3,h4,h5,h6,h7⟩:=h
    exact ⟨sa,sc,ka,kc,h1,h2,h3,h4.below hb,h5.below hb,h6.below hb,h7.below hb⟩
theorem Cd.ShAt.mono {B C:Nat} {w:World} {v:Value} (hb:B≤C):∀ {sh:Cd.Sh},Cd.ShAt B w v sh→Cd.ShAt C w v sh
  | .none,h=>h
  | .clash,h=>h
  | .known _ _,h=>by
    obtain ⟨sa,sc,ka,kc,h1,h2,h3,h4,h5,h6,h7⟩:=h
    exact ⟨sa,sc,ka,kc,h1,h2,h3,h4.mono hb,h5.mono hb,h6.keep (fun _ _=>rfl) hb,h7.keep (fun _ _=>rfl) hb⟩
theorem Cd.Below.set {w Z:World} (h:Below w.heap.size w Z) (d i:Nat) (v:Value):Below w.heap.size w (Z.setCell ⟨w.heap.size+d,i,none⟩ v):=h.setCell (p:=⟨w.heap.size+d,i,none⟩) (by show w.heap.size≤w.heap.size+d;omega) v
set_option maxRecDepth 100000 in
set_option maxHeartbeats 1000000 in
theorem Cd.join_00 (sa ka sb kb:Option Addr) (n1 c1 n2 c2 n3 c3 n4 c4:Nat) (w:World) :
    Calls Tryz.prog 64 #[Cd.shV 0 (.slice sa n1 c1) (.slice ka n2 c2),Cd.shV 0 (.slice sb n3 c3) (.slice kb n4 c4)] w fun e w'=>e = .returned (.tuple #[Cd.shV 0 (.slice sa n1 c1) (.slice ka n2 c2),.bool false])∧Below w.heap.size w w':=by
  obtain ⟨Y1,hY1⟩:∃ Y,w.alloc (.cells #[.int .i64 0,.slice sa n1 c1,.slice ka n2 c2] 110)=Y:=⟨_,rfl⟩
  have hb1:Below w.heap.size w Y1:=by rw [← hY1];exact Cd.b1 w _
  have hs1:Y1.heap.size=w.heap.size+1:=by rw [← hY1];exact World.size_alloc _ _
  have p1_0:Y1.heap[w.heap.size]? = some (.cells #[.int .i64 0,.slice sa n1 c1,.slice ka n2 c2] 110):=by rw [← hY1];exact Cd.new_at w _
  obtain ⟨Y2,hY2⟩:∃ Y,Y1.alloc (.cells #[.int .i64 0,.slice sb n3 c3,.slice kb n4 c4] 110)=Y:=⟨_,rfl⟩
  have hb2:Below w.heap.size w Y2:=by rw [← hY2];exact Cd.Below.new hb1 _
  have hs2:Y2.heap.size=w.heap.size+2:=by rw [← hY2,World.size_alloc];omega
  have p2_0:Y2.heap[w.heap.size]? = some (.cells #[.int .i64 0,.slice sa n1 c1,.slice ka n2 c2] 110):=by rw [← hY2];exact Cd.keepH _ p1_0
  have p2_1:Y2.heap[w.heap.size+1]? = some (.cells #[.int .i64 0,.slice sb n3 c3,.slice kb n4 c4] 110):=by rw [← hY2,← hs1];exact Cd.new_at _ _
  clear p1_0
  obtain ⟨Y3,hY3⟩:∃ Y,Y2.alloc (.cells #[.int .i64 0,.slice none 0 0,.slice none 0 0] 110)=Y:=⟨_,rfl⟩
  have hb3:Below w.heap.size w Y3:=by rw [← hY3];exact Cd.Below.new hb2 _
  have hs3:Y3.heap.size=w.heap.size+3:=by rw [← hY3,World.size_alloc];omega
  have p3_0:Y3.heap[w.heap.size]? = some (.cells #[.int .i64 0,.slice sa n1 c1,.slice ka n2 c2] 110):=by rw [← hY3];exact Cd.keepH _ p2_0
  have p3_1:Y3.heap[w.heap.size+1]? = some (.cells #[.int .i64 0,.slice sb n3 c3,.slice kb n4 c4] 110):=by rw [← hY3];exact Cd.keepH _ p2_1
  have p3_2:Y3.heap[w.heap.size+2]? = some (.cells #[.int .i64 0,.slice none 0 0,.slice none 0 0] 110):=by rw [← hY3,← hs2];exact Cd.new_at _ _
  clear p2_0 p2_1
  have c0_0:Y3.cell? ⟨w.heap.size,0,none⟩=some (.int .i64 0):=by rw [Lib.cell_of_heap p3_0];rfl
  have c0_1:Y3.cell? ⟨w.heap.size,1,none⟩=some (.slice sa n1 c1):=by rw [Lib.cell_of_heap p3_0];rfl
  have c0_2:Y3.cell? ⟨w.heap.size,2,none⟩=some (.slice ka n2 c2):=by rw [Lib.cell_of_heap p3_0];rfl
  have c1_0:Y3.cell? ⟨w.heap.size+1,0,none⟩=some (.int .i64 0):=by rw [Lib.cell_of_heap p3_1];rfl
  have c1_1:Y3.cell? ⟨w.heap.size+1,1,none⟩=some (.slice sb n3 c3):=by rw [Lib.cell_of_heap p3_1];rfl
  have c1_2:Y3.cell? ⟨w.heap.size+1,2,none⟩=some (.slice kb n4 c4):=by rw [Lib.cell_of_heap p3_1];rfl
  have c2_0:Y3.cell? ⟨w.heap.size+2,0,none⟩=some (.int .i64 0):=by rw [Lib.cell_of_heap p3_2];rfl
  have c2_1:Y3.cell? ⟨w.heap.size+2,1,none⟩=some (.slice none 0 0):=by rw [Lib.cell_of_heap p3_2];rfl
  have c2_2:Y3.cell? ⟨w.heap.size+2,2,none⟩=some (.slice none 0 0):=by rw [Lib.cell_of_heap p3_2];rfl
  have f2_0:Y3.frozen? ⟨w.heap.size+2,0,none⟩=false:=by simp [World.frozen?,p3_2]
  have f2_1:Y3.frozen? ⟨w.heap.size+2,1,none⟩=false:=by simp [World.frozen?,p3_2]
  have f2_2:Y3.frozen? ⟨w.heap.size+2,2,none⟩=false:=by simp [World.frozen?,p3_2]
  clear p3_0 p3_1 p3_2 hb1 hb2
  unfold Cd.shV
  go_enter Tryz.func64,Tryz.ntmps64
  go_wp2_with fail
  exact bodyPost_ret (v:=.tuple #[Cd.shV 0 (.slice sa n1 c1) (.slice ka n2 c2),.bool false]) (by simp [results,Tryz.results64,go_sem,c2_0,c2_1,c2_2,Cd.shV]) rfl ⟨rfl,Cd.Below.set (Cd.Below.set (Cd.Below.set hb3 2 0 _) 2 1 _) 2 2 _⟩
set_option maxRecDepth 100000 in
set_option maxHeartbeats 1000000 in
theorem Cd.join_10 (sa ka sb kb:Option Addr) (n1 c1 n2 c2 n3 c3 n4 c4:Nat) (w:World) :
    Calls Tryz.prog 64 #[Cd.shV 1 (.slice sa n1 c1) (.slice ka n2 c2),Cd.shV 0 (.slice sb n3 c3) (.slice kb n4 c4)] w fun e w'=>e = .returned (.tuple #[Cd.shV 1 (.slice sa n1 c1) (.slice ka n2 c2),.bool false])∧Below w.heap.size w w':=by
  obtain ⟨Y1,hY1⟩:∃ Y,w.alloc (.cells #[.int .i64 1,.slice sa n1 c1,.slice ka n2 c2] 110)=Y:=⟨_,rfl⟩
  have hb1:Below w.heap.size w Y1:=by rw [← hY1];exact Cd.b1 w _
  have hs1:Y1.heap.size=w.heap.size+1:=by rw [← hY1];exact World.size_alloc _ _
  have p1_0:Y1.heap[w.heap.size]? = some (.cells #[.int .i64 1,.slice sa n1 c1,.slice ka n2 c2] 110):=by rw [← hY1];exact Cd.new_at w _
  obtain ⟨Y2,hY2⟩:∃ Y,Y1.alloc (.cells #[.int .i64 0,.slice sb n3 c3,.slice kb n4 c4] 110)=Y:=⟨_,rfl⟩
  have hb2:Below w.heap.size w Y2:=by rw [← hY2];exact Cd.Below.new hb1 _
  have hs2:Y2.heap.size=w.heap.size+2:=by rw [← hY2,World.size_alloc];omega
  have p2_0:Y2.heap[w.heap.size]? = some (.cells #[.int .i64 1,.slice sa n1 c1,.slice ka n2 c2] 110):=by rw [← hY2];exact Cd.keepH _ p1_0
  have p2_1:Y2.heap[w.heap.size+1]? = some (.cells #[.int .i64 0,.slice sb n3 c3,.slice kb n4 c4] 110):=by rw [← hY2,← hs1];exact Cd.new_at _ _
  clear p1_0
  obtain ⟨Y3,hY3⟩:∃ Y,Y2.alloc (.cells #[.int .i64 0,.slice none 0 0,.slice none 0 0] 110)=Y:=⟨_,rfl⟩
  have hb3:Below w.heap.size w Y3:=by rw [← hY3];exact Cd.Below.new hb2 _
  have hs3:Y3.heap.size=w.heap.size+3:=by rw [← hY3,World.size_alloc];omega
  have p3_0:Y3.heap[w.heap.size]? = some (.cells #[.int .i64 1,.slice sa n1 c1,.slice ka n2 c2] 110):=by rw [← hY3];exact Cd.keepH _ p2_0
  have p3_1:Y3.heap[w.heap.size+1]? = some (.cells #[.int .i64 0,.slice sb n3 c3,.slice kb n4 c4] 110):=by rw [← hY3];exact Cd.keepH _ p2_1
  have p3_2:Y3.heap[w.heap.size+2]? = some (.cells #[.int .i64 0,.slice none 0 0,.slice none 0 0] 110):=by rw [← hY3,← hs2];exact Cd.new_at _ _
  clear p2_0 p2_1
  have c0_0:Y3.cell? ⟨w.heap.size,0,none⟩=some (.int .i64 1):=by rw [Lib.cell_of_heap p3_0];rfl
  have c0_1:Y3.cell? ⟨w.heap.size,1,none⟩=some (.slice sa n1 c1):=by rw [Lib.cell_of_heap p3_0];rfl
  have c0_2:Y3.cell? ⟨w.heap.size,2,none⟩=some (.slice ka n2 c2):=by rw [Lib.cell_of_heap p3_0];rfl
  have c1_0:Y3.cell? ⟨w.heap.size+1,0,none⟩=some (.int .i64 0):=by rw [Lib.cell_of_heap p3_1];rfl
  have c1_1:Y3.cell? ⟨w.heap.size+1,1,none⟩=some (.slice sb n3 c3):=by rw [Lib.cell_of_heap p3_1];rfl
  have c1_2:Y3.cell? ⟨w.heap.size+1,2,none⟩=some (.slice kb n4 c4):=by rw [Lib.cell_of_heap p3_1];rfl
  have c2_0:Y3.cell? ⟨w.heap.size+2,0,none⟩=some (.int .i64 0):=by rw [Lib.cell_of_heap p3_2];rfl
  have c2_1:Y3.cell? ⟨w.heap.size+2,1,none⟩=some (.slice none 0 0):=by rw [Lib.cell_of_heap p3_2];rfl
  have c2_2:Y3.cell? ⟨w.heap.size+2,2,none⟩=some (.slice none 0 0):=by rw [Lib.cell_of_heap p3_2];rfl
  have f2_0:Y3.frozen? ⟨w.heap.size+2,0,none⟩=false:=by simp [World.frozen?,p3_2]
  have f2_1:Y3.frozen? ⟨w.heap.size+2,1,none⟩=false:=by simp [World.frozen?,p3_2]
  have f2_2:Y3.frozen? ⟨w.heap.size+2,2,none⟩=false:=by simp [World.frozen?,p3_2]
  clear p3_0 p3_1 p3_2 hb1 hb2
  unfold Cd.shV
  go_enter Tryz.func64,Tryz.ntmps64
  go_wp2_with fail
  exact bodyPost_ret (v:=.tuple #[Cd.shV 1 (.slice sa n1 c1) (.slice ka n2 c2),.bool false]) (by simp [results,Tryz.results64,go_sem,c2_0,c2_1,c2_2,Cd.shV]) rfl ⟨rfl,Cd.Below.set (Cd.Below.set (Cd.Below.set hb3 2 0 _) 2 1 _) 2 2 _⟩
set_option maxRecDepth 100000 in
set_option maxHeartbeats 1000000 in
theorem Cd.join_20 (sa ka sb kb:Option Addr) (n1 c1 n2 c2 n3 c3 n4 c4:Nat) (w:World) :
    Calls Tryz.prog 64 #[Cd.shV 2 (.slice sa n1 c1) (.slice ka n2 c2),Cd.shV 0 (.slice sb n3 c3) (.slice kb n4 c4)] w fun e w'=>e = .returned (.tuple #[Cd.shV 2 (.slice sa n1 c1) (.slice ka n2 c2),.bool false])∧Below w.heap.size w w':=by
  obtain ⟨Y1,hY1⟩:∃ Y,w.alloc (.cells #[.int .i64 2,.slice sa n1 c1,.slice ka n2 c2] 110)=Y:=⟨_,rfl⟩
  have hb1:Below w.heap.size w Y1:=by rw [← hY1];exact Cd.b1 w _
  have hs1:Y1.heap.size=w.heap.size+1:=by rw [← hY1];exact World.size_alloc _ _
  have p1_0:Y1.heap[w.heap.size]? = some (.cells #[.int .i64 2,.slice sa n1 c1,.slice ka n2 c2] 110):=by rw [← hY1];exact Cd.new_at w _
  obtain ⟨Y2,hY2⟩:∃ Y,Y1.alloc (.cells #[.int .i64 0,.slice sb n3 c3,.slice kb n4 c4] 110)=Y:=⟨_,rfl⟩
  have hb2:Below w.heap.size w Y2:=by rw [← hY2];exact Cd.Below.new hb1 _
  have hs2:Y2.heap.size=w.heap.size+2:=by rw [← hY2,World.size_alloc];omega
  have p2_0:Y2.heap[w.heap.size]? = some (.cells #[.int .i64 2,.slice sa n1 c1,.slice ka n2 c2] 110):=by rw [← hY2];exact Cd.keepH _ p1_0
  have p2_1:Y2.heap[w.heap.size+1]? = some (.cells #[.int .i64 0,.slice sb n3 c3,.slice kb n4 c4] 110):=by rw [← hY2,← hs1];exact Cd.new_at _ _
  clear p1_0
  obtain ⟨Y3,hY3⟩:∃ Y,Y2.alloc (.cells #[.int .i64 0,.slice none 0 0,.slice none 0 0] 110)=Y:=⟨_,rfl⟩
  have hb3:Below w.heap.size w Y3:=by rw [← hY3];exact Cd.Below.new hb2 _
  have hs3:Y3.heap.size=w.heap.size+3:=by rw [← hY3,World.size_alloc];omega
  have p3_0:Y3.heap[w.heap.size]? = some (.cells #[.int .i64 2,.slice sa n1 c1,.slice ka n2 c2] 110):=by rw [← hY3];exact Cd.keepH _ p2_0
  have p3_1:Y3.heap[w.heap.size+1]? = some (.cells #[.int .i64 0,.slice sb n3 c3,.slice kb n4 c4] 110):=by rw [← hY3];exact Cd.keepH _ p2_1
  have p3_2:Y3.heap[w.heap.size+2]? = some (.cells #[.int .i64 0,.slice none 0 0,.slice none 0 0] 110):=by rw [← hY3,← hs2];exact Cd.new_at _ _
  clear p2_0 p2_1
  have c0_0:Y3.cell? ⟨w.heap.size,0,none⟩=some (.int .i64 2):=by rw [Lib.cell_of_heap p3_0];rfl
  have c0_1:Y3.cell? ⟨w.heap.size,1,none⟩=some (.slice sa n1 c1):=by rw [Lib.cell_of_heap p3_0];rfl
  have c0_2:Y3.cell? ⟨w.heap.size,2,none⟩=some (.slice ka n2 c2):=by rw [Lib.cell_of_heap p3_0];rfl
  have c1_0:Y3.cell? ⟨w.heap.size+1,0,none⟩=some (.int .i64 0):=by rw [Lib.cell_of_heap p3_1];rfl
  have c1_1:Y3.cell? ⟨w.heap.size+1,1,none⟩=some (.slice sb n3 c3):=by rw [Lib.cell_of_heap p3_1];rfl
  have c1_2:Y3.cell? ⟨w.heap.size+1,2,none⟩=some (.slice kb n4 c4):=by rw [Lib.cell_of_heap p3_1];rfl
  have c2_0:Y3.cell? ⟨w.heap.size+2,0,none⟩=some (.int .i64 0):=by rw [Lib.cell_of_heap p3_2];rfl
  have c2_1:Y3.cell? ⟨w.heap.size+2,1,none⟩=some (.slice none 0 0):=by rw [Lib.cell_of_heap p3_2];rfl
  have c2_2:Y3.cell? ⟨w.heap.size+2,2,none⟩=some (.slice none 0 0):=by rw [Lib.cell_of_heap p3_2];rfl
  have f2_0:Y3.frozen? ⟨w.heap.size+2,0,none⟩=false:=by simp [World.frozen?,p3_2]
  have f2_1:Y3.frozen? ⟨w.heap.size+2,1,none⟩=false:=by simp [World.frozen?,p3_2]
  have f2_2:Y3.frozen? ⟨w.heap.size+2,2,none⟩=false:=by simp [World.frozen?,p3_2]
  clear p3_0 p3_1 p3_2 hb1 hb2
  unfold Cd.shV
  go_enter Tryz.func64,Tryz.ntmps64
  go_wp2_with fail
  exact bodyPost_ret (v:=.tuple #[Cd.shV 2 (.slice sa n1 c1) (.slice ka n2 c2),.bool false]) (by simp [results,Tryz.results64,go_sem,c2_0,c2_1,c2_2,Cd.shV]) rfl ⟨rfl,Cd.Below.set (Cd.Below.set (Cd.Below.set hb3 2 0 _) 2 1 _) 2 2 _⟩
set_option maxRecDepth 100000 in
set_option maxHeartbeats 1000000 in
theorem Cd.join_21 (sa ka sb kb:Option Addr) (n1 c1 n2 c2 n3 c3 n4 c4:Nat) (w:World) :
    Calls Tryz.prog 64 #[Cd.shV 2 (.slice sa n1 c1) (.slice ka n2 c2),Cd.shV 1 (.slice sb n3 c3) (.slice kb n4 c4)] w fun e w'=>e = .returned (.tuple #[Cd.shV 2 (.slice sa n1 c1) (.slice ka n2 c2),.bool false])∧Below w.heap.size w w':=by
  obtain ⟨Y1,hY1⟩:∃ Y,w.alloc (.cells #[.int .i64 2,.slice sa n1 c1,.slice ka n2 c2] 110)=Y:=⟨_,rfl⟩
  have hb1:Below w.heap.size w Y1:=by rw [← hY1];exact Cd.b1 w _
  have hs1:Y1.heap.size=w.heap.size+1:=by rw [← hY1];exact World.size_alloc _ _
  have p1_0:Y1.heap[w.heap.size]? = some (.cells #[.int .i64 2,.slice sa n1 c1,.slice ka n2 c2] 110):=by rw [← hY1];exact Cd.new_at w _
  obtain ⟨Y2,hY2⟩:∃ Y,Y1.alloc (.cells #[.int .i64 1,.slice sb n3 c3,.slice kb n4 c4] 110)=Y:=⟨_,rfl⟩
  have hb2:Below w.heap.size w Y2:=by rw [← hY2];exact Cd.Below.new hb1 _
  have hs2:Y2.heap.size=w.heap.size+2:=by rw [← hY2,World.size_alloc];omega
  have p2_0:Y2.heap[w.heap.size]? = some (.cells #[.int .i64 2,.slice sa n1 c1,.slice ka n2 c2] 110):=by rw [← hY2];exact Cd.keepH _ p1_0
  have p2_1:Y2.heap[w.heap.size+1]? = some (.cells #[.int .i64 1,.slice sb n3 c3,.slice kb n4 c4] 110):=by rw [← hY2,← hs1];exact Cd.new_at _ _
  clear p1_0
  obtain ⟨Y3,hY3⟩:∃ Y,Y2.alloc (.cells #[.int .i64 0,.slice none 0 0,.slice none 0 0] 110)=Y:=⟨_,rfl⟩
  have hb3:Below w.heap.size w Y3:=by rw [← hY3];exact Cd.Below.new hb2 _
  have hs3:Y3.heap.size=w.heap.size+3:=by rw [← hY3,World.size_alloc];omega
  have p3_0:Y3.heap[w.heap.size]? = some (.cells #[.int .i64 2,.slice sa n1 c1,.slice ka n2 c2] 110):=by rw [← hY3];exact Cd.keepH _ p2_0
  have p3_1:Y3.heap[w.heap.size+1]? = some (.cells #[.int .i64 1,.slice sb n3 c3,.slice kb n4 c4] 110):=by rw [← hY3];exact Cd.keepH _ p2_1
  have p3_2:Y3.heap[w.heap.size+2]? = some (.cells #[.int .i64 0,.slice none 0 0,.slice none 0 0] 110):=by rw [← hY3,← hs2];exact Cd.new_at _ _
  clear p2_0 p2_1
  have c0_0:Y3.cell? ⟨w.heap.size,0,none⟩=some (.int .i64 2):=by rw [Lib.cell_of_heap p3_0];rfl
  have c0_1:Y3.cell? ⟨w.heap.size,1,none⟩=some (.slice sa n1 c1):=by rw [Lib.cell_of_heap p3_0];rfl
  have c0_2:Y3.cell? ⟨w.heap.size,2,none⟩=some (.slice ka n2 c2):=by rw [Lib.cell_of_heap p3_0];rfl
  have c1_0:Y3.cell? ⟨w.heap.size+1,0,none⟩=some (.int .i64 1):=by rw [Lib.cell_of_heap p3_1];rfl
  have c1_1:Y3.cell? ⟨w.heap.size+1,1,none⟩=some (.slice sb n3 c3):=by rw [Lib.cell_of_heap p3_1];rfl
  have c1_2:Y3.cell? ⟨w.heap.size+1,2,none⟩=some (.slice kb n4 c4):=by rw [Lib.cell_of_heap p3_1];rfl
  have c2_0:Y3.cell? ⟨w.heap.size+2,0,none⟩=some (.int .i64 0):=by rw [Lib.cell_of_heap p3_2];rfl
  have c2_1:Y3.cell? ⟨w.heap.size+2,1,none⟩=some (.slice none 0 0):=by rw [Lib.cell_of_heap p3_2];rfl
  have c2_2:Y3.cell? ⟨w.heap.size+2,2,none⟩=some (.slice none 0 0):=by rw [Lib.cell_of_heap p3_2];rfl
  have f2_0:Y3.frozen? ⟨w.heap.size+2,0,none⟩=false:=by simp [World.frozen?,p3_2]
  have f2_1:Y3.frozen? ⟨w.heap.size+2,1,none⟩=false:=by simp [World.frozen?,p3_2]
  have f2_2:Y3.frozen? ⟨w.heap.size+2,2,none⟩=false:=by simp [World.frozen?,p3_2]
  clear p3_0 p3_1 p3_2 hb1 hb2
  unfold Cd.shV
  go_enter Tryz.func64,Tryz.ntmps64
  go_wp2_with fail
  exact bodyPost_ret (v:=.tuple #[Cd.shV 2 (.slice sa n1 c1) (.slice ka n2 c2),.bool false]) (by simp [results,Tryz.results64,go_sem,c2_0,c2_1,c2_2,Cd.shV]) rfl ⟨rfl,Cd.Below.set (Cd.Below.set (Cd.Below.set hb3 2 0 _) 2 1 _) 2 2 _⟩
set_option maxRecDepth 100000 in
set_option maxHeartbeats 1000000 in
theorem Cd.join_22 (sa ka sb kb:Option Addr) (n1 c1 n2 c2 n3 c3 n4 c4:Nat) (w:World) :
    Calls Tryz.prog 64 #[Cd.shV 2 (.slice sa n1 c1) (.slice ka n2 c2),Cd.shV 2 (.slice sb n3 c3) (.slice kb n4 c4)] w fun e w'=>e = .returned (.tuple #[Cd.shV 2 (.slice sa n1 c1) (.slice ka n2 c2),.bool false])∧Below w.heap.size w w':=by
  obtain ⟨Y1,hY1⟩:∃ Y,w.alloc (.cells #[.int .i64 2,.slice sa n1 c1,.slice ka n2 c2] 110)=Y:=⟨_,rfl⟩
  have hb1:Below w.heap.size w Y1:=by rw [← hY1];exact Cd.b1 w _
  have hs1:Y1.heap.size=w.heap.size+1:=by rw [← hY1];exact World.size_alloc _ _
  have p1_0:Y1.heap[w.heap.size]? = some (.cells #[.int .i64 2,.slice sa n1 c1,.slice ka n2 c2] 110):=by rw [← hY1];exact Cd.new_at w _
  obtain ⟨Y2,hY2⟩:∃ Y,Y1.alloc (.cells #[.int .i64 2,.slice sb n3 c3,.slice kb n4 c4] 110)=Y:=⟨_,rfl⟩
  have hb2:Below w.heap.size w Y2:=by rw [← hY2];exact Cd.Below.new hb1 _
  have hs2:Y2.heap.size=w.heap.size+2:=by rw [← hY2,World.size_alloc];omega
  have p2_0:Y2.heap[w.heap.size]? = some (.cells #[.int .i64 2,.slice sa n1 c1,.slice ka n2 c2] 110):=by rw [← hY2];exact Cd.keepH _ p1_0
  have p2_1:Y2.heap[w.heap.size+1]? = some (.cells #[.int .i64 2,.slice sb n3 c3,.slice kb n4 c4] 110):=by rw [← hY2,← hs1];exact Cd.new_at _ _
  clear p1_0
  obtain ⟨Y3,hY3⟩:∃ Y,Y2.alloc (.cells #[.int .i64 0,.slice none 0 0,.slice none 0 0] 110)=Y:=⟨_,rfl⟩
  have hb3:Below w.heap.size w Y3:=by rw [← hY3];exact Cd.Below.new hb2 _
  have hs3:Y3.heap.size=w.heap.size+3:=by rw [← hY3,World.size_alloc];omega
  have p3_0:Y3.heap[w.heap.size]? = some (.cells #[.int .i64 2,.slice sa n1 c1,.slice ka n2 c2] 110):=by rw [← hY3];exact Cd.keepH _ p2_0
  have p3_1:Y3.heap[w.heap.size+1]? = some (.cells #[.int .i64 2,.slice sb n3 c3,.slice kb n4 c4] 110):=by rw [← hY3];exact Cd.keepH _ p2_1
  have p3_2:Y3.heap[w.heap.size+2]? = some (.cells #[.int .i64 0,.slice none 0 0,.slice none 0 0] 110):=by rw [← hY3,← hs2];exact Cd.new_at _ _
  clear p2_0 p2_1
  have c0_0:Y3.cell? ⟨w.heap.size,0,none⟩=some (.int .i64 2):=by rw [Lib.cell_of_heap p3_0];rfl
  have c0_1:Y3.cell? ⟨w.heap.size,1,none⟩=some (.slice sa n1 c1):=by rw [Lib.cell_of_heap p3_0];rfl
  have c0_2:Y3.cell? ⟨w.heap.size,2,none⟩=some (.slice ka n2 c2):=by rw [Lib.cell_of_heap p3_0];rfl
  have c1_0:Y3.cell? ⟨w.heap.size+1,0,none⟩=some (.int .i64 2):=by rw [Lib.cell_of_heap p3_1];rfl
  have c1_1:Y3.cell? ⟨w.heap.size+1,1,none⟩=some (.slice sb n3 c3):=by rw [Lib.cell_of_heap p3_1];rfl
  have c1_2:Y3.cell? ⟨w.heap.size+1,2,none⟩=some (.slice kb n4 c4):=by rw [Lib.cell_of_heap p3_1];rfl
  have c2_0:Y3.cell? ⟨w.heap.size+2,0,none⟩=some (.int .i64 0):=by rw [Lib.cell_of_heap p3_2];rfl
  have c2_1:Y3.cell? ⟨w.heap.size+2,1,none⟩=some (.slice none 0 0):=by rw [Lib.cell_of_heap p3_2];rfl
  have c2_2:Y3.cell? ⟨w.heap.size+2,2,none⟩=some (.slice none 0 0):=by rw [Lib.cell_of_heap p3_2];rfl
  have f2_0:Y3.frozen? ⟨w.heap.size+2,0,none⟩=false:=by simp [World.frozen?,p3_2]
  have f2_1:Y3.frozen? ⟨w.heap.size+2,1,none⟩=false:=by simp [World.frozen?,p3_2]
  have f2_2:Y3.frozen? ⟨w.heap.size+2,2,none⟩=false:=by simp [World.frozen?,p3_2]
  clear p3_0 p3_1 p3_2 hb1 hb2
  unfold Cd.shV
  go_enter Tryz.func64,Tryz.ntmps64
  go_wp2_with fail
  exact bodyPost_ret (v:=.tuple #[Cd.shV 2 (.slice sa n1 c1) (.slice ka n2 c2),.bool false]) (by simp [results,Tryz.results64,go_sem,c2_0,c2_1,c2_2,Cd.shV]) rfl ⟨rfl,Cd.Below.set (Cd.Below.set (Cd.Below.set hb3 2 0 _) 2 1 _) 2 2 _⟩
set_option maxRecDepth 100000 in
set_option maxHeartbeats 1000000 in
theorem Cd.join_01 (sa ka sb kb:Option Addr) (n1 c1 n2 c2 n3 c3 n4 c4:Nat) (w:World) :
    Calls Tryz.prog 64 #[Cd.shV 0 (.slice sa n1 c1) (.slice ka n2 c2),Cd.shV 1 (.slice sb n3 c3) (.slice kb n4 c4)] w fun e w'=>e = .returned (.tuple #[Cd.shV 1 (.slice sb n3 c3) (.slice kb n4 c4),.bool true])∧Below w.heap.size w w':=by
  obtain ⟨Y1,hY1⟩:∃ Y,w.alloc (.cells #[.int .i64 0,.slice sa n1 c1,.slice ka n2 c2] 110)=Y:=⟨_,rfl⟩
  have hb1:Below w.heap.size w Y1:=by rw [← hY1];exact Cd.b1 w _
  have hs1:Y1.heap.size=w.heap.size+1:=by rw [← hY1];exact World.size_alloc _ _
  have p1_0:Y1.heap[w.heap.size]? = some (.cells #[.int .i64 0,.slice sa n1 c1,.slice ka n2 c2] 110):=by rw [← hY1];exact Cd.new_at w _
  obtain ⟨Y2,hY2⟩:∃ Y,Y1.alloc (.cells #[.int .i64 1,.slice sb n3 c3,.slice kb n4 c4] 110)=Y:=⟨_,rfl⟩
  have hb2:Below w.heap.size w Y2:=by rw [← hY2];exact Cd.Below.new hb1 _
  have hs2:Y2.heap.size=w.heap.size+2:=by rw [← hY2,World.size_alloc];omega
  have p2_0:Y2.heap[w.heap.size]? = some (.cells #[.int .i64 0,.slice sa n1 c1,.slice ka n2 c2] 110):=by rw [← hY2];exact Cd.keepH _ p1_0
  have p2_1:Y2.heap[w.heap.size+1]? = some (.cells #[.int .i64 1,.slice sb n3 c3,.slice kb n4 c4] 110):=by rw [← hY2,← hs1];exact Cd.new_at _ _
  clear p1_0
  obtain ⟨Y3,hY3⟩:∃ Y,Y2.alloc (.cells #[.int .i64 0,.slice none 0 0,.slice none 0 0] 110)=Y:=⟨_,rfl⟩
  have hb3:Below w.heap.size w Y3:=by rw [← hY3];exact Cd.Below.new hb2 _
  have hs3:Y3.heap.size=w.heap.size+3:=by rw [← hY3,World.size_alloc];omega
  have p3_0:Y3.heap[w.heap.size]? = some (.cells #[.int .i64 0,.slice sa n1 c1,.slice ka n2 c2] 110):=by rw [← hY3];exact Cd.keepH _ p2_0
  have p3_1:Y3.heap[w.heap.size+1]? = some (.cells #[.int .i64 1,.slice sb n3 c3,.slice kb n4 c4] 110):=by rw [← hY3];exact Cd.keepH _ p2_1
  have p3_2:Y3.heap[w.heap.size+2]? = some (.cells #[.int .i64 0,.slice none 0 0,.slice none 0 0] 110):=by rw [← hY3,← hs2];exact Cd.new_at _ _
  clear p2_0 p2_1
  have c0_0:Y3.cell? ⟨w.heap.size,0,none⟩=some (.int .i64 0):=by rw [Lib.cell_of_heap p3_0];rfl
  have c0_1:Y3.cell? ⟨w.heap.size,1,none⟩=some (.slice sa n1 c1):=by rw [Lib.cell_of_heap p3_0];rfl
  have c0_2:Y3.cell? ⟨w.heap.size,2,none⟩=some (.slice ka n2 c2):=by rw [Lib.cell_of_heap p3_0];rfl
  have c1_0:Y3.cell? ⟨w.heap.size+1,0,none⟩=some (.int .i64 1):=by rw [Lib.cell_of_heap p3_1];rfl
  have c1_1:Y3.cell? ⟨w.heap.size+1,1,none⟩=some (.slice sb n3 c3):=by rw [Lib.cell_of_heap p3_1];rfl
  have c1_2:Y3.cell? ⟨w.heap.size+1,2,none⟩=some (.slice kb n4 c4):=by rw [Lib.cell_of_heap p3_1];rfl
  have c2_0:Y3.cell? ⟨w.heap.size+2,0,none⟩=some (.int .i64 0):=by rw [Lib.cell_of_heap p3_2];rfl
  have c2_1:Y3.cell? ⟨w.heap.size+2,1,none⟩=some (.slice none 0 0):=by rw [Lib.cell_of_heap p3_2];rfl
  have c2_2:Y3.cell? ⟨w.heap.size+2,2,none⟩=some (.slice none 0 0):=by rw [Lib.cell_of_heap p3_2];rfl
  have f2_0:Y3.frozen? ⟨w.heap.size+2,0,none⟩=false:=by simp [World.frozen?,p3_2]
  have f2_1:Y3.frozen? ⟨w.heap.size+2,1,none⟩=false:=by simp [World.frozen?,p3_2]
  have f2_2:Y3.frozen? ⟨w.heap.size+2,2,none⟩=false:=by simp [World.frozen?,p3_2]
  clear p3_0 p3_1 p3_2 hb1 hb2
  unfold Cd.shV
  go_enter Tryz.func64,Tryz.ntmps64
  go_wp2_with fail
  exact bodyPost_ret (v:=.tuple #[Cd.shV 1 (.slice sb n3 c3) (.slice kb n4 c4),.bool true]) (by simp [results,Tryz.results64,go_sem,c2_0,c2_1,c2_2,Cd.shV]) rfl ⟨rfl,Cd.Below.set (Cd.Below.set (Cd.Below.set hb3 2 0 _) 2 1 _) 2 2 _⟩
set_option maxRecDepth 100000 in
set_option maxHeartbeats 1000000 in
theorem Cd.join_02 (sa ka sb kb:Option Addr) (n1 c1 n2 c2 n3 c3 n4 c4:Nat) (w:World) :
    Calls Tryz.prog 64 #[Cd.shV 0 (.slice sa n1 c1) (.slice ka n2 c2),Cd.shV 2 (.slice sb n3 c3) (.slice kb n4 c4)] w fun e w'=>e = .returned (.tuple #[Cd.shV 2 (.slice sb n3 c3) (.slice kb n4 c4),.bool true])∧Below w.heap.size w w':=by
  obtain ⟨Y1,hY1⟩:∃ Y,w.alloc (.cells #[.int .i64 0,.slice sa n1 c1,.slice ka n2 c2] 110)=Y:=⟨_,rfl⟩
  have hb1:Below w.heap.size w Y1:=by rw [← hY1];exact Cd.b1 w _
  have hs1:Y1.heap.size=w.heap.size+1:=by rw [← hY1];exact World.size_alloc _ _
  have p1_0:Y1.heap[w.heap.size]? = some (.cells #[.int .i64 0,.slice sa n1 c1,.slice ka n2 c2] 110):=by rw [← hY1];exact Cd.new_at w _
  obtain ⟨Y2,hY2⟩:∃ Y,Y1.alloc (.cells #[.int .i64 2,.slice sb n3 c3,.slice kb n4 c4] 110)=Y:=⟨_,rfl⟩
  have hb2:Below w.heap.size w Y2:=by rw [← hY2];exact Cd.Below.new hb1 _
  have hs2:Y2.heap.size=w.heap.size+2:=by rw [← hY2,World.size_alloc];omega
  have p2_0:Y2.heap[w.heap.size]? = some (.cells #[.int .i64 0,.slice sa n1 c1,.slice ka n2 c2] 110):=by rw [← hY2];exact Cd.keepH _ p1_0
  have p2_1:Y2.heap[w.heap.size+1]? = some (.cells #[.int .i64 2,.slice sb n3 c3,.slice kb n4 c4] 110):=by rw [← hY2,← hs1];exact Cd.new_at _ _
  clear p1_0
  obtain ⟨Y3,hY3⟩:∃ Y,Y2.alloc (.cells #[.int .i64 0,.slice none 0 0,.slice none 0 0] 110)=Y:=⟨_,rfl⟩
  have hb3:Below w.heap.size w Y3:=by rw [← hY3];exact Cd.Below.new hb2 _
  have hs3:Y3.heap.size=w.heap.size+3:=by rw [← hY3,World.size_alloc];omega
  have p3_0:Y3.heap[w.heap.size]? = some (.cells #[.int .i64 0,.slice sa n1 c1,.slice ka n2 c2] 110):=by rw [← hY3];exact Cd.keepH _ p2_0
  have p3_1:Y3.heap[w.heap.size+1]? = some (.cells #[.int .i64 2,.slice sb n3 c3,.slice kb n4 c4] 110):=by rw [← hY3];exact Cd.keepH _ p2_1
  have p3_2:Y3.heap[w.heap.size+2]? = some (.cells #[.int .i64 0,.slice none 0 0,.slice none 0 0] 110):=by rw [← hY3,← hs2];exact Cd.new_at _ _
  clear p2_0 p2_1
  have c0_0:Y3.cell? ⟨w.heap.size,0,none⟩=some (.int .i64 0):=by rw [Lib.cell_of_heap p3_0];rfl
  have c0_1:Y3.cell? ⟨w.heap.size,1,none⟩=some (.slice sa n1 c1):=by rw [Lib.cell_of_heap p3_0];rfl
  have c0_2:Y3.cell? ⟨w.heap.size,2,none⟩=some (.slice ka n2 c2):=by rw [Lib.cell_of_heap p3_0];rfl
  have c1_0:Y3.cell? ⟨w.heap.size+1,0,none⟩=some (.int .i64 2):=by rw [Lib.cell_of_heap p3_1];rfl
  have c1_1:Y3.cell? ⟨w.heap.size+1,1,none⟩=some (.slice sb n3 c3):=by rw [Lib.cell_of_heap p3_1];rfl
  have c1_2:Y3.cell? ⟨w.heap.size+1,2,none⟩=some (.slice kb n4 c4):=by rw [Lib.cell_of_heap p3_1];rfl
  have c2_0:Y3.cell? ⟨w.heap.size+2,0,none⟩=some (.int .i64 0):=by rw [Lib.cell_of_heap p3_2];rfl
  have c2_1:Y3.cell? ⟨w.heap.size+2,1,none⟩=some (.slice none 0 0):=by rw [Lib.cell_of_heap p3_2];rfl
  have c2_2:Y3.cell? ⟨w.heap.size+2,2,none⟩=some (.slice none 0 0):=by rw [Lib.cell_of_heap p3_2];rfl
  have f2_0:Y3.frozen? ⟨w.heap.size+2,0,none⟩=false:=by simp [World.frozen?,p3_2]
  have f2_1:Y3.frozen? ⟨w.heap.size+2,1,none⟩=false:=by simp [World.frozen?,p3_2]
  have f2_2:Y3.frozen? ⟨w.heap.size+2,2,none⟩=false:=by simp [World.frozen?,p3_2]
  clear p3_0 p3_1 p3_2 hb1 hb2
  unfold Cd.shV
  go_enter Tryz.func64,Tryz.ntmps64
  go_wp2_with fail
  exact bodyPost_ret (v:=.tuple #[Cd.shV 2 (.slice sb n3 c3) (.slice kb n4 c4),.bool true]) (by simp [results,Tryz.results64,go_sem,c2_0,c2_1,c2_2,Cd.shV]) rfl ⟨rfl,Cd.Below.set (Cd.Below.set (Cd.Below.set hb3 2 0 _) 2 1 _) 2 2 _⟩
set_option maxRecDepth 100000 in
set_option maxHeartbeats 1000000 in
theorem Cd.join_12 (sa ka sb kb:Option Addr) (n1 c1 n2 c2 n3 c3 n4 c4:Nat) (w:World) :
    Calls Tryz.prog 64 #[Cd.shV 1 (.slice sa n1 c1) (.slice ka n2 c2),Cd.shV 2 (.slice sb n3 c3) (.slice kb n4 c4)] w fun e w'=>e = .returned (.tuple #[Cd.shV 2 (.slice sb n3 c3) (.slice kb n4 c4),.bool true])∧Below w.heap.size w w':=by
  obtain ⟨Y1,hY1⟩:∃ Y,w.alloc (.cells #[.int .i64 1,.slice sa n1 c1,.slice ka n2 c2] 110)=Y:=⟨_,rfl⟩
  have hb1:Below w.heap.size w Y1:=by rw [← hY1];exact Cd.b1 w _
  have hs1:Y1.heap.size=w.heap.size+1:=by rw [← hY1];exact World.size_alloc _ _
  have p1_0:Y1.heap[w.heap.size]? = some (.cells #[.int .i64 1,.slice sa n1 c1,.slice ka n2 c2] 110):=by rw [← hY1];exact Cd.new_at w _
  obtain ⟨Y2,hY2⟩:∃ Y,Y1.alloc (.cells #[.int .i64 2,.slice sb n3 c3,.slice kb n4 c4] 110)=Y:=⟨_,rfl⟩
  have hb2:Below w.heap.size w Y2:=by rw [← hY2];exact Cd.Below.new hb1 _
  have hs2:Y2.heap.size=w.heap.size+2:=by rw [← hY2,World.size_alloc];omega
  have p2_0:Y2.heap[w.heap.size]? = some (.cells #[.int .i64 1,.slice sa n1 c1,.slice ka n2 c2] 110):=by rw [← hY2];exact Cd.keepH _ p1_0
  have p2_1:Y2.heap[w.heap.size+1]? = some (.cells #[.int .i64 2,.slice sb n3 c3,.slice kb n4 c4] 110):=by rw [← hY2,← hs1];exact Cd.new_at _ _
  clear p1_0
  obtain ⟨Y3,hY3⟩:∃ Y,Y2.alloc (.cells #[.int .i64 0,.slice none 0 0,.slice none 0 0] 110)=Y:=⟨_,rfl⟩
  have hb3:Below w.heap.size w Y3:=by rw [← hY3];exact Cd.Below.new hb2 _
  have hs3:Y3.heap.size=w.heap.size+3:=by rw [← hY3,World.size_alloc];omega
  have p3_0:Y3.heap[w.heap.size]? = some (.cells #[.int .i64 1,.slice sa n1 c1,.slice ka n2 c2] 110):=by rw [← hY3];exact Cd.keepH _ p2_0
  have p3_1:Y3.heap[w.heap.size+1]? = some (.cells #[.int .i64 2,.slice sb n3 c3,.slice kb n4 c4] 110):=by rw [← hY3];exact Cd.keepH _ p2_1
  have p3_2:Y3.heap[w.heap.size+2]? = some (.cells #[.int .i64 0,.slice none 0 0,.slice none 0 0] 110):=by rw [← hY3,← hs2];exact Cd.new_at _ _
  clear p2_0 p2_1
  have c0_0:Y3.cell? ⟨w.heap.size,0,none⟩=some (.int .i64 1):=by rw [Lib.cell_of_heap p3_0];rfl
  have c0_1:Y3.cell? ⟨w.heap.size,1,none⟩=some (.slice sa n1 c1):=by rw [Lib.cell_of_heap p3_0];rfl
  have c0_2:Y3.cell? ⟨w.heap.size,2,none⟩=some (.slice ka n2 c2):=by rw [Lib.cell_of_heap p3_0];rfl
  have c1_0:Y3.cell? ⟨w.heap.size+1,0,none⟩=some (.int .i64 2):=by rw [Lib.cell_of_heap p3_1];rfl
  have c1_1:Y3.cell? ⟨w.heap.size+1,1,none⟩=some (.slice sb n3 c3):=by rw [Lib.cell_of_heap p3_1];rfl
  have c1_2:Y3.cell? ⟨w.heap.size+1,2,none⟩=some (.slice kb n4 c4):=by rw [Lib.cell_of_heap p3_1];rfl
  have c2_0:Y3.cell? ⟨w.heap.size+2,0,none⟩=some (.int .i64 0):=by rw [Lib.cell_of_heap p3_2];rfl
  have c2_1:Y3.cell? ⟨w.heap.size+2,1,none⟩=some (.slice none 0 0):=by rw [Lib.cell_of_heap p3_2];rfl
  have c2_2:Y3.cell? ⟨w.heap.size+2,2,none⟩=some (.slice none 0 0):=by rw [Lib.cell_of_heap p3_2];rfl
  have f2_0:Y3.frozen? ⟨w.heap.size+2,0,none⟩=false:=by simp [World.frozen?,p3_2]
  have f2_1:Y3.frozen? ⟨w.heap.size+2,1,none⟩=false:=by simp [World.frozen?,p3_2]
  have f2_2:Y3.frozen? ⟨w.heap.size+2,2,none⟩=false:=by simp [World.frozen?,p3_2]
  clear p3_0 p3_1 p3_2 hb1 hb2
  unfold Cd.shV
  go_enter Tryz.func64,Tryz.ntmps64
  go_wp2_with fail
  exact bodyPost_ret (v:=.tuple #[Cd.shV 2 (.slice sb n3 c3) (.slice kb n4 c4),.bool true]) (by simp [results,Tryz.results64,go_sem,c2_0,c2_1,c2_2,Cd.shV]) rfl ⟨rfl,Cd.Below.set (Cd.Below.set (Cd.Below.set hb3 2 0 _) 2 1 _) 2 2 _⟩
end Go.Proofs.YtbkhedpabfanoaaGreatDoor
namespace Go.Proofs.YtbkhedpabfanoaaGreatDoor
open Go.RowKit

def Cd.JI (s t:List Int) (kv:Value) (N:Nat) (Y:World) (tc ti:Value) (wr:World):Prop :=
  ∃ (i:Nat) (hv:Value),i≤s.length∧ti = .int .i64 (i:Int)∧tc = .bool (decide ((Cd.agree s t).take i≠s.take i))∧wr.ownsRow (N+4) 3 1 hv i (Cd.ints ((Cd.agree s t).take i))∧wr.heap[N+3]? = some (.cells #[.int .i64 1,hv,kv] 110)∧Below (N+3) Y wr
theorem Cd.JI_next {s t:List Int} {kv:Value} {N:Nat} {Y wr w3:World} {i:Nat} {hv v':Value} {o:Obj} {cf:Bool} {z:Int} (hB:Below (N+3) Y wr) (hout:wr.heap[N+3]? = some (.cells #[.int .i64 1,hv,kv] 110)) (hown:wr.ownsRow (N+4) 3 1 hv i (Cd.ints ((Cd.agree s t).take i))) (hgrow:(wr.alloc o).grownBy w3 hv.ownBlock) (hown':w3.ownsRow (N+4) 3 1 v' (i+1) (Cd.ints ((Cd.agree s t).take i++[z]))) (hz:(Cd.agree s t).take (i+1)=(Cd.agree s t).take i++[z]) (hi:i < s.length) (hc:cf=decide ((Cd.agree s t).take (i+1)≠s.take (i+1))):Cd.JI s t kv N Y (.bool cf) (.int .i64 ((i:Int)+1)) (w3.setCell ⟨N+3,1,none⟩ v'):=by
  have hlt:N+3 < wr.heap.size:=(Array.getElem?_eq_some_iff.1 hout).1
  have h3:w3.heap[N+3]? = some (.cells #[.int .i64 1,hv,kv] 110):=Cd.grown_blk o hout rfl hgrow (Cd.rowBlk hown (by omega))
  refine ⟨i+1,v',hi,rfl,by rw [hc], ?_, ?_, ?_⟩
  · rw [hz];exact ownsRow_setCell_other (a:=⟨N+3,1,none⟩) hown' (Cd.rowBlk hown' (by show N+3 < _;omega)) _
  · exact (heap_setCell_same w3 (N+3) 1 _ _ v' h3).trans rfl
  · exact (Cd.Below.grown (hB.alloc (by omega) o) hgrow (by simp;omega) (fun k hk=>Cd.rowBlk hown (by omega))).setCell (p:=⟨N+3,1,none⟩) (by show N+3≤N+3;omega) _
set_option maxRecDepth 100000 in
set_option maxHeartbeats 1000000 in
theorem Cd.join_st (s t k l:List Int) (hl:s.length=t.length) (_hsl:s.length≤1048576) (hk:k.length≤1048576) (hk2:l.length≤1048576) (sa ka sb kb:Option Addr) (c1 c2 c3 c4:Nat) (w:World) (_hS:Cd.IntsAt w.heap.size w (.slice sa s.length c1) s) (_hT:Cd.IntsAt w.heap.size w (.slice sb t.length c3) t) (hK:Cd.IntsAt w.heap.size w (.slice ka k.length c2) k) (hL:Cd.IntsAt w.heap.size w (.slice kb l.length c4) l) (hne:k≠l) :
    Calls Tryz.prog 64 #[Cd.shV 1 (.slice sa s.length c1) (.slice ka k.length c2),Cd.shV 1 (.slice sb t.length c3) (.slice kb l.length c4)] w fun e w'=>e = .returned (.tuple #[Cd.shV 2 (.slice none 0 0) (.slice none 0 0),.bool true])∧Below w.heap.size w w':=by
  have Hl:Hid (s.length=t.length):=hl
  clear hl
  obtain ⟨Y1,hY1⟩:∃ Y,w.alloc (.cells #[.int .i64 1,.slice sa s.length c1,.slice ka k.length c2] 110)=Y:=⟨_,rfl⟩
  have hb1:Below w.heap.size w Y1:=by rw [← hY1];exact Cd.b1 w _
  have hs1:Y1.heap.size=w.heap.size+1:=by rw [← hY1];exact World.size_alloc _ _
  have p1_0:Y1.heap[w.heap.size]? = some (.cells #[.int .i64 1,.slice sa s.length c1,.slice ka k.length c2] 110):=by rw [← hY1];exact Cd.new_at w _
  obtain ⟨Y2,hY2⟩:∃ Y,Y1.alloc (.cells #[.int .i64 1,.slice sb t.length c3,.slice kb l.length c4] 110)=Y:=⟨_,rfl⟩
  have hb2:Below w.heap.size w Y2:=by rw [← hY2];exact Cd.Below.new hb1 _
  have hs2:Y2.heap.size=w.heap.size+2:=by rw [← hY2,World.size_alloc];omega
  have p2_0:Y2.heap[w.heap.size]? = some (.cells #[.int .i64 1,.slice sa s.length c1,.slice ka k.length c2] 110):=by rw [← hY2];exact Cd.keepH _ p1_0
  have p2_1:Y2.heap[w.heap.size+1]? = some (.cells #[.int .i64 1,.slice sb t.length c3,.slice kb l.length c4] 110):=by rw [← hY2,← hs1];exact Cd.new_at _ _
  clear p1_0
  obtain ⟨Y3,hY3⟩:∃ Y,Y2.alloc (.cells #[.int .i64 0,.slice none 0 0,.slice none 0 0] 110)=Y:=⟨_,rfl⟩
  have hb3:Below w.heap.size w Y3:=by rw [← hY3];exact Cd.Below.new hb2 _
  have hs3:Y3.heap.size=w.heap.size+3:=by rw [← hY3,World.size_alloc];omega
  have p3_0:Y3.heap[w.heap.size]? = some (.cells #[.int .i64 1,.slice sa s.length c1,.slice ka k.length c2] 110):=by rw [← hY3];exact Cd.keepH _ p2_0
  have p3_1:Y3.heap[w.heap.size+1]? = some (.cells #[.int .i64 1,.slice sb t.length c3,.slice kb l.length c4] 110):=by rw [← hY3];exact Cd.keepH _ p2_1
  have p3_2:Y3.heap[w.heap.size+2]? = some (.cells #[.int .i64 0,.slice none 0 0,.slice none 0 0] 110):=by rw [← hY3,← hs2];exact Cd.new_at _ _
  clear p2_0 p2_1
  have c0_0:Y3.cell? ⟨w.heap.size,0,none⟩=some (.int .i64 1):=by rw [Lib.cell_of_heap p3_0];rfl
  have c0_1:Y3.cell? ⟨w.heap.size,1,none⟩=some (.slice sa s.length c1):=by rw [Lib.cell_of_heap p3_0];rfl
  have c0_2:Y3.cell? ⟨w.heap.size,2,none⟩=some (.slice ka k.length c2):=by rw [Lib.cell_of_heap p3_0];rfl
  have c1_0:Y3.cell? ⟨w.heap.size+1,0,none⟩=some (.int .i64 1):=by rw [Lib.cell_of_heap p3_1];rfl
  have c1_1:Y3.cell? ⟨w.heap.size+1,1,none⟩=some (.slice sb t.length c3):=by rw [Lib.cell_of_heap p3_1];rfl
  have c1_2:Y3.cell? ⟨w.heap.size+1,2,none⟩=some (.slice kb l.length c4):=by rw [Lib.cell_of_heap p3_1];rfl
  have c2_0:Y3.cell? ⟨w.heap.size+2,0,none⟩=some (.int .i64 0):=by rw [Lib.cell_of_heap p3_2];rfl
  have c2_1:Y3.cell? ⟨w.heap.size+2,1,none⟩=some (.slice none 0 0):=by rw [Lib.cell_of_heap p3_2];rfl
  have c2_2:Y3.cell? ⟨w.heap.size+2,2,none⟩=some (.slice none 0 0):=by rw [Lib.cell_of_heap p3_2];rfl
  have f2_0:Y3.frozen? ⟨w.heap.size+2,0,none⟩=false:=by simp [World.frozen?,p3_2]
  have f2_1:Y3.frozen? ⟨w.heap.size+2,1,none⟩=false:=by simp [World.frozen?,p3_2]
  have f2_2:Y3.frozen? ⟨w.heap.size+2,2,none⟩=false:=by simp [World.frozen?,p3_2]
  clear hb1 hb2
  clear p3_0 p3_1 p3_2
  have HK3:Hid (Cd.IntsAt w.heap.size Y3 (.slice ka k.length c2) k):=hK.below hb3
  have HL3:Hid (Cd.IntsAt w.heap.size Y3 (.slice kb l.length c4) l):=hL.below hb3
  have HD:Hid (decide (k=l)=false):=by rw [Hid];simp [hne]
  clear _hS _hT hK hL hne
  unfold Cd.shV
  go_enter Tryz.func64,Tryz.ntmps64
  go_wp2_with (first | (go_at_call 78;refine (Cd.same_any w.heap.size _ _ k l hk hk2 _ HK3.out HL3.out).mono ?_;rintro e w' ⟨rfl,q,rfl⟩;rw [HD.out]))
  exact bodyPost_ret (v:=.tuple #[Cd.shV 2 (.slice none 0 0) (.slice none 0 0),.bool true]) (by simp [results,Tryz.results64,go_sem,c2_0,c2_1,c2_2,Cd.shV]) rfl ⟨rfl,Cd.Below.set (Cd.Below.set (Cd.Below.set (Cd.belowD _ hb3) 2 0 _) 2 1 _) 2 2 _⟩
set_option maxRecDepth 100000 in
set_option maxHeartbeats 1000000 in
theorem Cd.join_ok (s t k l:List Int) (hl:s.length=t.length) (hsl:s.length≤1048576) (hk:k.length≤1048576) (hk2:l.length≤1048576) (sa ka sb kb:Option Addr) (c1 c2 c3 c4:Nat) (w:World) (hS:Cd.IntsAt w.heap.size w (.slice sa s.length c1) s) (hT:Cd.IntsAt w.heap.size w (.slice sb t.length c3) t) (hK:Cd.IntsAt w.heap.size w (.slice ka k.length c2) k) (hL:Cd.IntsAt w.heap.size w (.slice kb l.length c4) l) (he:k=l) :
    Calls Tryz.prog 64 #[Cd.shV 1 (.slice sa s.length c1) (.slice ka k.length c2),Cd.shV 1 (.slice sb t.length c3) (.slice kb l.length c4)] w fun e w' => ∃ hv,e = .returned (.tuple #[Cd.shV 1 hv (.slice ka k.length c2),.bool (decide (Cd.agree s t≠s))])∧Cd.IntsAt w'.heap.size w' hv (Cd.agree s t)∧Cd.typed w'.heap.size w' hv∧Below w.heap.size w w':=by
  have Hl:Hid (s.length=t.length):=hl
  clear hl
  obtain ⟨Y1,hY1⟩:∃ Y,w.alloc (.cells #[.int .i64 1,.slice sa s.length c1,.slice ka k.length c2] 110)=Y:=⟨_,rfl⟩
  have hb1:Below w.heap.size w Y1:=by rw [← hY1];exact Cd.b1 w _
  have hs1:Y1.heap.size=w.heap.size+1:=by rw [← hY1];exact World.size_alloc _ _
  have p1_0:Y1.heap[w.heap.size]? = some (.cells #[.int .i64 1,.slice sa s.length c1,.slice ka k.length c2] 110):=by rw [← hY1];exact Cd.new_at w _
  obtain ⟨Y2,hY2⟩:∃ Y,Y1.alloc (.cells #[.int .i64 1,.slice sb t.length c3,.slice kb l.length c4] 110)=Y:=⟨_,rfl⟩
  have hb2:Below w.heap.size w Y2:=by rw [← hY2];exact Cd.Below.new hb1 _
  have hs2:Y2.heap.size=w.heap.size+2:=by rw [← hY2,World.size_alloc];omega
  have p2_0:Y2.heap[w.heap.size]? = some (.cells #[.int .i64 1,.slice sa s.length c1,.slice ka k.length c2] 110):=by rw [← hY2];exact Cd.keepH _ p1_0
  have p2_1:Y2.heap[w.heap.size+1]? = some (.cells #[.int .i64 1,.slice sb t.length c3,.slice kb l.length c4] 110):=by rw [← hY2,← hs1];exact Cd.new_at _ _
  clear p1_0
  obtain ⟨Y3,hY3⟩:∃ Y,Y2.alloc (.cells #[.int .i64 0,.slice none 0 0,.slice none 0 0] 110)=Y:=⟨_,rfl⟩
  have hb3:Below w.heap.size w Y3:=by rw [← hY3];exact Cd.Below.new hb2 _
  have hs3:Y3.heap.size=w.heap.size+3:=by rw [← hY3,World.size_alloc];omega
  have p3_0:Y3.heap[w.heap.size]? = some (.cells #[.int .i64 1,.slice sa s.length c1,.slice ka k.length c2] 110):=by rw [← hY3];exact Cd.keepH _ p2_0
  have p3_1:Y3.heap[w.heap.size+1]? = some (.cells #[.int .i64 1,.slice sb t.length c3,.slice kb l.length c4] 110):=by rw [← hY3];exact Cd.keepH _ p2_1
  have p3_2:Y3.heap[w.heap.size+2]? = some (.cells #[.int .i64 0,.slice none 0 0,.slice none 0 0] 110):=by rw [← hY3,← hs2];exact Cd.new_at _ _
  clear p2_0 p2_1
  have c0_0:Y3.cell? ⟨w.heap.size,0,none⟩=some (.int .i64 1):=by rw [Lib.cell_of_heap p3_0];rfl
  have c0_1:Y3.cell? ⟨w.heap.size,1,none⟩=some (.slice sa s.length c1):=by rw [Lib.cell_of_heap p3_0];rfl
  have c0_2:Y3.cell? ⟨w.heap.size,2,none⟩=some (.slice ka k.length c2):=by rw [Lib.cell_of_heap p3_0];rfl
  have c1_0:Y3.cell? ⟨w.heap.size+1,0,none⟩=some (.int .i64 1):=by rw [Lib.cell_of_heap p3_1];rfl
  have c1_1:Y3.cell? ⟨w.heap.size+1,1,none⟩=some (.slice sb t.length c3):=by rw [Lib.cell_of_heap p3_1];rfl
  have c1_2:Y3.cell? ⟨w.heap.size+1,2,none⟩=some (.slice kb l.length c4):=by rw [Lib.cell_of_heap p3_1];rfl
  have c2_0:Y3.cell? ⟨w.heap.size+2,0,none⟩=some (.int .i64 0):=by rw [Lib.cell_of_heap p3_2];rfl
  have c2_1:Y3.cell? ⟨w.heap.size+2,1,none⟩=some (.slice none 0 0):=by rw [Lib.cell_of_heap p3_2];rfl
  have c2_2:Y3.cell? ⟨w.heap.size+2,2,none⟩=some (.slice none 0 0):=by rw [Lib.cell_of_heap p3_2];rfl
  have f2_0:Y3.frozen? ⟨w.heap.size+2,0,none⟩=false:=by simp [World.frozen?,p3_2]
  have f2_1:Y3.frozen? ⟨w.heap.size+2,1,none⟩=false:=by simp [World.frozen?,p3_2]
  have f2_2:Y3.frozen? ⟨w.heap.size+2,2,none⟩=false:=by simp [World.frozen?,p3_2]
  clear hb1 hb2
  have HK3:Hid (Cd.IntsAt w.heap.size Y3 (.slice ka k.length c2) k):=hK.below hb3
  have HL3:Hid (Cd.IntsAt w.heap.size Y3 (.slice kb l.length c4) l):=hL.below hb3
  have HD:Hid (decide (k=l)=true):=by rw [Hid];simp [he]
  have HSo:Hid (Cd.IntsAt w.heap.size w (.slice sa s.length c1) s):=hS
  have HTo:Hid (Cd.IntsAt w.heap.size w (.slice sb t.length c3) t):=hT
  clear hS hT hK hL he
  unfold Cd.shV
  go_enter Tryz.func64,Tryz.ntmps64
  go_wp2_with (first | (go_at_call 78;refine (Cd.same_any w.heap.size _ _ k l hk hk2 _ HK3.out HL3.out).mono ?_;rintro e w' ⟨rfl,q,rfl⟩;rw [HD.out]))
  have HS3:Hid (Cd.IntsAt w.heap.size Y3 (.slice sa s.length c1) s):=HSo.out.below hb3
  have HT3:Hid (Cd.IntsAt w.heap.size Y3 (.slice sb t.length c3) t):=HTo.out.below hb3
  have HP:Hid (Y3.heap[w.heap.size]? = some (.cells #[.int .i64 1,.slice sa s.length c1,.slice ka k.length c2] 110)∧Y3.heap[w.heap.size+1]? = some (.cells #[.int .i64 1,.slice sb t.length c3,.slice kb l.length c4] 110)∧Y3.heap[w.heap.size+2]? = some (.cells #[.int .i64 0,.slice none 0 0,.slice none 0 0] 110)):=⟨p3_0,p3_1,p3_2⟩
  clear p3_0 p3_1 p3_2 c0_0 c0_1 c0_2 c1_0 c1_1 c1_2 c2_0 c2_1 c2_2 f2_0 f2_1 f2_2 HSo HTo HK3 HL3 HD hk hk2 hY1 hY2 hY3 hs1 hs2
  go_loopw [7,8] (fun tc ti wr=>Cd.JI s t (.slice ka k.length c2) w.heap.size Y3 tc ti wr) (fun _ ti _=>s.length - (intOf ti).toNat)
  case atStart =>
    exact ⟨0,.slice none 0 0,by omega,rfl,by simp,World.ownsRow_nil _ _ _ _,by rw [← hs3];exact Cd.new_at _ _,(Cd.belowD _ (Below.refl _ Y3)).alloc (Nat.le_of_eq hs3.symm) _⟩
  case round =>
    obtain ⟨i,hv,hi,rfl,rfl,hown,hout,hbr⟩:=hrel
    have HB:Hid (Below (w.heap.size+3) Y3 wr):=hbr
    have HOUT:Hid (wr.heap[w.heap.size+3]? = some (.cells #[.int .i64 1,hv,.slice ka k.length c2] 110)):=hout
    have HOWN:Hid (wr.ownsRow (w.heap.size+4) 3 1 hv i (Cd.ints ((Cd.agree s t).take i))):=hown
    have q0:wr.heap[w.heap.size]? = some (.cells #[.int .i64 1,.slice sa s.length c1,.slice ka k.length c2] 110):=(hbr.block _ (by omega)).trans HP.out.1
    have q1:wr.heap[w.heap.size+1]? = some (.cells #[.int .i64 1,.slice sb t.length c3,.slice kb l.length c4] 110):=(hbr.block _ (by omega)).trans HP.out.2.1
    have q2:wr.heap[w.heap.size+2]? = some (.cells #[.int .i64 0,.slice none 0 0,.slice none 0 0] 110):=(hbr.block _ (by omega)).trans HP.out.2.2
    have c01:wr.cell? ⟨w.heap.size,1,none⟩=some (.slice sa s.length c1):=by rw [Lib.cell_of_heap q0];rfl
    have c11:wr.cell? ⟨w.heap.size+1,1,none⟩=some (.slice sb t.length c3):=by rw [Lib.cell_of_heap q1];rfl
    by_cases hlt:i < s.length
    · have hlt2:i < t.length:=by rw [← Hl.out];exact hlt
      obtain ⟨ga,oa,rfl,da⟩:∃ g o,sa=some ⟨g,o,none⟩∧wr.cell? ⟨g,o+i,none⟩=some (.int .i64 s[i]):=by
        obtain ⟨a',cp,he,hc⟩:=HS3.out
        injection he with e1
        subst e1
        obtain ⟨g,o,ha,hg,hcell⟩:=hc i hlt
        exact ⟨g,o,ha,(HB.out.cell (p:=⟨g,o+i,none⟩) (by show g < _;omega)).trans hcell⟩
      obtain ⟨gb,ob,rfl,db⟩:∃ g o,sb=some ⟨g,o,none⟩∧wr.cell? ⟨g,o+i,none⟩=some (.int .i64 t[i]):=by
        obtain ⟨a',cp,he,hc⟩:=HT3.out
        injection he with e1
        subst e1
        obtain ⟨g,o,ha,hg,hcell⟩:=hc i hlt2
        exact ⟨g,o,ha,(HB.out.cell (p:=⟨g,o+i,none⟩) (by show g < _;omega)).trans hcell⟩
      have HTK:Hid ((Cd.agree s t).take (i+1)=(Cd.agree s t).take i++[if s[i]=t[i] then s[i] else 0]):=by
        have h1:i < (Cd.agree s t).length:=by rw [Cd.agree_len Hl.out];exact hlt
        rw [Hid,List.take_succ_eq_append_getElem h1,Cd.agree_at hlt hlt2]
      have HTS:Hid (s.take (i+1)=s.take i++[s[i]]):=List.take_succ_eq_append_getElem hlt
      obtain ⟨x,hx⟩:∃ x,s[i]=x:=⟨_,rfl⟩
      obtain ⟨y,hy⟩:∃ y,t[i]=y:=⟨_,rfl⟩
      rw [hx] at da HTK HTS
      rw [hy] at db HTK
      clear hx hy hown hout hbr q0 q1 q2
      have hltI:(i:Int) < (s.length:Int):=by omega
      have hltT:(i:Int) < (t.length:Int):=by omega
      obtain ⟨cf,HCF⟩:∃ b,Hid (decide ((Cd.agree s t).take i≠s.take i)=b):=⟨_,rfl⟩
      rw [HCF.out]
      obtain ⟨a0,cap0,rfl⟩:=Cd.rowLen HOWN.out
      have o1:wr.cell? ⟨w.heap.size+3,1,none⟩=some (.slice a0 i cap0):=by rw [Lib.cell_of_heap HOUT.out];rfl
      have o1A:∀ o:Obj,(wr.alloc o).cell? ⟨w.heap.size+3,1,none⟩=some (.slice a0 i cap0):=fun o=>by rw [Lib.cell_of_heap (Cd.keepH o HOUT.out)];rfl
      have hlt3:w.heap.size+3 < wr.heap.size:=(Array.getElem?_eq_some_iff.1 HOUT.out).1
      obtain ⟨i0,hi0,hz0,hz1,hz2⟩:=Cd.int_info
      by_cases hxy:x=y
      · subst hxy
        have HZ:Hid ((Cd.agree s t).take (i+1)=(Cd.agree s t).take i++[x]):=by rw [Hid,HTK.out,if_pos rfl]
        have HC:Hid (cf=decide ((Cd.agree s t).take (i+1)≠s.take (i+1))):=by
          rw [Hid,HZ.out,HTS.out,← HCF.out]
          simp
        go_wp2_with (first | (at_builtin;refine Cd.wp_append_ints rfl _ _ 34 rfl (w.heap.size+4) 3 i0 (.int .i64 0) Tryz.underlying34 hi0 hz0 hz1 hz2 rfl _ i ((Cd.agree s t).take i) rfl (HOWN.out.alloc _) (wr.heap.size+1) _ rfl [x] (Cd.IntsAt.new wr [x] 3 1) (by simp only [List.length_cons,List.length_nil];omega) (by simp;omega) ?_;intro v' w3 hown' hgrow3;obtain ⟨a3,cap3,hv3⟩:=Cd.rowLen hown';subst hv3;have hblk3:=Cd.grown_blk _ HOUT.out rfl hgrow3 (Cd.rowBlk HOWN.out (by omega));have c31:w3.cell? ⟨w.heap.size+3,1,none⟩=some (.slice a0 i cap0):=(by rw [Lib.cell_of_heap hblk3];rfl);have f31:w3.frozen? ⟨w.heap.size+3,1,none⟩=false:=(by simp [World.frozen?,hblk3])))
        go_roundw
        case rel=>exact Cd.JI_next HB.out HOUT.out HOWN.out hgrow3 hown' HZ.out hlt HC.out
        case measure=>simp [intOf];omega
      · have hxb:(x != y)=true:=by simp [hxy]
        have HZ:Hid ((Cd.agree s t).take (i+1)=(Cd.agree s t).take i++[0]):=by rw [Hid,HTK.out,if_neg hxy]
        clear hxy
        by_cases hx0:x=0
        · subst hx0
          have HC:Hid (cf=decide ((Cd.agree s t).take (i+1)≠s.take (i+1))):=by
            rw [Hid,HZ.out,HTS.out,← HCF.out]
            simp
          go_wp2_with (first | (at_builtin;refine Cd.wp_append_ints rfl _ _ 34 rfl (w.heap.size+4) 3 i0 (.int .i64 0) Tryz.underlying34 hi0 hz0 hz1 hz2 rfl _ i ((Cd.agree s t).take i) rfl (HOWN.out.alloc _) (wr.heap.size+1) _ rfl [0] (Cd.IntsAt.new wr [0] 3 1) (by simp only [List.length_cons,List.length_nil];omega) (by simp;omega) ?_;intro v' w3 hown' hgrow3;obtain ⟨a3,cap3,hv3⟩:=Cd.rowLen hown';subst hv3;have hblk3:=Cd.grown_blk _ HOUT.out rfl hgrow3 (Cd.rowBlk HOWN.out (by omega));have c31:w3.cell? ⟨w.heap.size+3,1,none⟩=some (.slice a0 i cap0):=(by rw [Lib.cell_of_heap hblk3];rfl);have f31:w3.frozen? ⟨w.heap.size+3,1,none⟩=false:=(by simp [World.frozen?,hblk3])))
          go_roundw
          case rel=>exact Cd.JI_next HB.out HOUT.out HOWN.out hgrow3 hown' HZ.out hlt HC.out
          case measure=>simp [intOf];omega
        · have hx0b:(x != 0)=true:=by simp [hx0]
          have HC:Hid (true=decide ((Cd.agree s t).take (i+1)≠s.take (i+1))):=by
            have h2:¬ (Cd.agree s t).take (i+1)=s.take (i+1):=fun e=>by
              rw [HZ.out,HTS.out] at e
              have e2:=(List.append_inj' e rfl).2
              simp at e2
              exact hx0 e2.symm
            rw [Hid];simp [h2]
          clear hx0
          go_wp2_with (first | (at_builtin;refine Cd.wp_append_ints rfl _ _ 34 rfl (w.heap.size+4) 3 i0 (.int .i64 0) Tryz.underlying34 hi0 hz0 hz1 hz2 rfl _ i ((Cd.agree s t).take i) rfl (HOWN.out.alloc _) (wr.heap.size+1) _ rfl [0] (Cd.IntsAt.new wr [0] 3 1) (by simp only [List.length_cons,List.length_nil];omega) (by simp;omega) ?_;intro v' w3 hown' hgrow3;obtain ⟨a3,cap3,hv3⟩:=Cd.rowLen hown';subst hv3;have hblk3:=Cd.grown_blk _ HOUT.out rfl hgrow3 (Cd.rowBlk HOWN.out (by omega));have c31:w3.cell? ⟨w.heap.size+3,1,none⟩=some (.slice a0 i cap0):=(by rw [Lib.cell_of_heap hblk3];rfl);have f31:w3.frozen? ⟨w.heap.size+3,1,none⟩=false:=(by simp [World.frozen?,hblk3])))
          go_roundw
          case rel=>exact Cd.JI_next HB.out HOUT.out HOWN.out hgrow3 hown' HZ.out hlt HC.out
          case measure=>simp [intOf];omega
    · have hie:i=s.length:=by omega
      have HE:Hid (i=s.length):=hie
      have HAG:Hid ((Cd.agree s t).take i=Cd.agree s t):=by
        rw [Hid,HE.out,← Cd.agree_len Hl.out];exact List.take_length
      have HCH:Hid (decide ((Cd.agree s t).take i≠s.take i)=decide (Cd.agree s t≠s)):=by
        have h2:s.take i=s:=by rw [HE.out];exact List.take_length
        rw [Hid,HAG.out,h2]
      have HIN:Hid (∀ B',wr.heap.size≤B'→Cd.IntsAt B' wr hv (Cd.agree s t)):=fun B' hB'=>by
        have h0:i=(Cd.agree s t).length:=by rw [HE.out,Cd.agree_len Hl.out]
        have h1:=HOWN.out
        rw [HAG.out,h0] at h1
        exact Cd.IntsAt.own h1 hB'
      have HTY:Hid (Cd.typed wr.heap.size wr hv):=Cd.typed.own HOWN.out (Nat.le_refl _)
      have HOWN2:Hid (hv.ownBlock≠some (w.heap.size+2)):=Cd.rowBlk HOWN.out (by omega)
      rw [HCH.out]
      obtain ⟨cf,HCF⟩:∃ b,Hid (decide (Cd.agree s t≠s)=b):=⟨_,rfl⟩
      rw [HCF.out]
      obtain ⟨a0,cap0,rfl⟩:=Cd.rowLen HOWN.out
      have o0:wr.cell? ⟨w.heap.size+3,0,none⟩=some (.int .i64 1):=by rw [Lib.cell_of_heap HOUT.out];rfl
      have o1:wr.cell? ⟨w.heap.size+3,1,none⟩=some (.slice a0 i cap0):=by rw [Lib.cell_of_heap HOUT.out];rfl
      have o2:wr.cell? ⟨w.heap.size+3,2,none⟩=some (.slice ka k.length c2):=by rw [Lib.cell_of_heap HOUT.out];rfl
      have c20:wr.cell? ⟨w.heap.size+2,0,none⟩=some (.int .i64 0):=by rw [Lib.cell_of_heap q2];rfl
      have c21:wr.cell? ⟨w.heap.size+2,1,none⟩=some (.slice none 0 0):=by rw [Lib.cell_of_heap q2];rfl
      have c22:wr.cell? ⟨w.heap.size+2,2,none⟩=some (.slice none 0 0):=by rw [Lib.cell_of_heap q2];rfl
      have f20:wr.frozen? ⟨w.heap.size+2,0,none⟩=false:=by simp [World.frozen?,q2]
      have f21:wr.frozen? ⟨w.heap.size+2,1,none⟩=false:=by simp [World.frozen?,q2]
      have f22:wr.frozen? ⟨w.heap.size+2,2,none⟩=false:=by simp [World.frozen?,q2]
      have hge:¬ (i:Int) < (s.length:Int):=by omega
      have HBW:Hid (Below w.heap.size w wr):=hb3.trans (HB.out.mono (by omega))
      clear hie hlt hown hout hbr q0 q1 q2 c11
      go_wp2_with fail
      refine bodyPost_ret (v:=.tuple #[Cd.shV 1 (.slice a0 i cap0) (.slice ka k.length c2),.bool cf]) (by simp [results,Tryz.results64,go_sem,c20,c21,c22,Cd.shV]) rfl ⟨.slice a0 i cap0,by rw [← HCF.out];simp [Cd.shV], ?_,Cd.typed.keep HTY.out (fun k hk=>by rw [Below.heap_setCell _ _ _ _ (by intro e;subst e;exact HOWN2.out hk),Below.heap_setCell _ _ _ _ (by intro e;subst e;exact HOWN2.out hk),Below.heap_setCell _ _ _ _ (by intro e;subst e;exact HOWN2.out hk)]) (by simp),Cd.Below.set (Cd.Below.set (Cd.Below.set HBW.out 2 0 _) 2 1 _) 2 2 _⟩
      exact Cd.IntsAt.keep (HIN.out _ (Nat.le_refl _)) (fun k hk=>by rw [Below.heap_setCell _ _ _ _ (by intro e;subst e;exact HOWN2.out hk),Below.heap_setCell _ _ _ _ (by intro e;subst e;exact HOWN2.out hk),Below.heap_setCell _ _ _ _ (by intro e;subst e;exact HOWN2.out hk)]) (by simp)
end Go.Proofs.YtbkhedpabfanoaaGreatDoor
namespace Go.Proofs.YtbkhedpabfanoaaGreatDoor
open Go.RowKit

set_option maxRecDepth 100000 in
set_option maxHeartbeats 1000000 in
theorem Cd.behind_bad (_c:List Cd.Fn) (f:Cd.Fn) (at':Nat) (hat:at' < f.ins.length) (_hil:f.ins.length≤50000) (cv pv sv kv:Value) (ia:Option Addr) (ic:Nat) (st:Int) (hst:st≠1) (w:World) (hI:Cd.InsAt w.heap.size w (.slice ia f.ins.length ic) f.ins) :
    Calls Tryz.prog 49 #[.agg #[cv],Cd.fnV f pv (.slice ia f.ins.length ic),.int .i64 (at':Int),Cd.shV st sv kv] w fun e w'=>(∃ v,e = .returned v∧Cd.ShAt w'.heap.size w' v .clash)∧Below w.heap.size w w':=by
  obtain ⟨gi,rfl,hgi,hcell⟩:∃ gi,ia=some ⟨gi,0,none⟩∧gi < w.heap.size∧∀ j,j < 4→w.cell? ⟨gi,at' * 4+j,none⟩=(Cd.insC f.ins[at'])[j]?:=by
    obtain ⟨a',cp,hv2,hc⟩:=hI
    injection hv2 with e1
    subst e1
    exact hc at' hat
  obtain ⟨Y1,hY1⟩:∃ Y,w.alloc (.cells #[cv] 24)=Y:=⟨_,rfl⟩
  have hb1:Below w.heap.size w Y1:=by rw [← hY1];exact Cd.b1 w _
  have hs1:Y1.heap.size=w.heap.size+1:=by rw [← hY1];exact World.size_alloc _ _
  obtain ⟨Y2,hY2⟩:∃ Y,Y1.alloc (.cells #[.string f.name,pv,.int .i64 f.result,.int .i64 f.slots,.slice (some ⟨gi,0,none⟩) f.ins.length ic] 37)=Y:=⟨_,rfl⟩
  have hb2:Below w.heap.size w Y2:=by rw [← hY2];exact Cd.Below.new hb1 _
  have hs2:Y2.heap.size=w.heap.size+2:=by rw [← hY2,World.size_alloc];omega
  have q4:Y2.cell? ⟨w.heap.size+1,4,none⟩=some (.slice (some ⟨gi,0,none⟩) f.ins.length ic):=by rw [← hY2];exact Cd.new_cell Y1 _ _ 4 _ hs1
  obtain ⟨Y3,hY3⟩:∃ Y,Y2.alloc (.cells #[.int .i64 st,sv,kv] 110)=Y:=⟨_,rfl⟩
  have hb3:Below w.heap.size w Y3:=by rw [← hY3];exact Cd.Below.new hb2 _
  have hs3:Y3.heap.size=w.heap.size+3:=by rw [← hY3,World.size_alloc];omega
  have z4:Y3.cell? ⟨w.heap.size+1,4,none⟩=some (.slice (some ⟨gi,0,none⟩) f.ins.length ic):=by rw [← hY3];exact ((Cd.b1 Y2 _).cell (p:=⟨w.heap.size+1,4,none⟩) (by show w.heap.size+1 < _;omega)).trans q4
  have zs0:Y3.cell? ⟨w.heap.size+2,0,none⟩=some (.int .i64 st):=by rw [← hY3];exact Cd.new_cell Y2 _ _ 0 _ hs2
  obtain ⟨Y3,hY3b,hb3b,hs3b,z4b,zs0b,r0,r1,r2⟩:∃ Y,Y3.alloc (.cells #[.int .i64 0,.slice none 0 0,.slice none 0 0] 110)=Y∧Below w.heap.size w Y∧Y.heap.size=w.heap.size+4∧Y.cell? ⟨w.heap.size+1,4,none⟩=some (.slice (some ⟨gi,0,none⟩) f.ins.length ic)∧Y.cell? ⟨w.heap.size+2,0,none⟩=some (.int .i64 st)∧Y.heap[w.heap.size+3]? = some (.cells #[.int .i64 0,.slice none 0 0,.slice none 0 0] 110)∧True∧True :=
    ⟨_,rfl,Cd.Below.new hb3 _,by rw [World.size_alloc];omega,((Cd.b1 Y3 _).cell (p:=⟨w.heap.size+1,4,none⟩) (by show w.heap.size+1 < _;omega)).trans z4,((Cd.b1 Y3 _).cell (p:=⟨w.heap.size+2,0,none⟩) (by show w.heap.size+2 < _;omega)).trans zs0,by rw [← hs3];exact Cd.new_at Y3 _,trivial,trivial⟩
  clear r1 r2 z4 zs0
  rename_i Y3o
  obtain ⟨x,hx⟩:∃ x,f.ins[at']=x:=⟨_,rfl⟩
  rw [hx] at hcell
  have i0:=hcell 0 (by omega);have i1:=hcell 1 (by omega);have i2:=hcell 2 (by omega);have i3:=hcell 3 (by omega)
  simp only [Cd.insC,Nat.add_zero,List.getElem?_cons_zero,List.getElem?_cons_succ] at i0 i1 i2 i3
  have j0:=(hb3b.cell (p:=⟨gi,at' * 4,none⟩) hgi).trans i0
  have j1:=(hb3b.cell (p:=⟨gi,at' * 4+1,none⟩) hgi).trans i1
  have j2:=(hb3b.cell (p:=⟨gi,at' * 4+2,none⟩) hgi).trans i2
  have j3:=(hb3b.cell (p:=⟨gi,at' * 4+3,none⟩) hgi).trans i3
  obtain ⟨Y4,hY4⟩:∃ Y,Y3.alloc (.cells #[.int .i64 x.op,.int .i64 x.a,.int .i64 x.n,.string x.text] 54)=Y:=⟨_,rfl⟩
  have hb4:Below w.heap.size w Y4:=by rw [← hY4];exact Cd.Below.new hb3b _
  have hs4:Y4.heap.size=w.heap.size+5:=by rw [← hY4,World.size_alloc];omega
  have zs04:Y4.cell? ⟨w.heap.size+2,0,none⟩=some (.int .i64 st):=by rw [← hY4];exact ((Cd.b1 Y3 _).cell (p:=⟨w.heap.size+2,0,none⟩) (by show w.heap.size+2 < _;omega)).trans zs0b
  have rY4:Y4.heap[w.heap.size+3]? = some (.cells #[.int .i64 0,.slice none 0 0,.slice none 0 0] 110):=by rw [← hY4,Below.heap_alloc _ _ _ (by omega)];exact r0
  obtain ⟨Y5,hY5⟩:∃ Y,Y4.alloc (.cells #[.int .i64 0,.slice none 0 0,.slice none 0 0] 110)=Y:=⟨_,rfl⟩
  have hb5:Below w.heap.size w Y5:=by rw [← hY5];exact Cd.Below.new hb4 _
  have hs5:Y5.heap.size=w.heap.size+6:=by rw [← hY5,World.size_alloc];omega
  have st5:Y5.cell? ⟨w.heap.size+2,0,none⟩=some (.int .i64 st):=by rw [← hY5];exact ((Cd.b1 Y4 _).cell (p:=⟨w.heap.size+2,0,none⟩) (by show w.heap.size+2 < _;omega)).trans zs04
  have r5:Y5.heap[w.heap.size+3]? = some (.cells #[.int .i64 0,.slice none 0 0,.slice none 0 0] 110):=by rw [← hY5,Below.heap_alloc _ _ _ (by omega)];exact rY4
  have n5:Y5.heap[w.heap.size+5]? = some (.cells #[.int .i64 0,.slice none 0 0,.slice none 0 0] 110):=by rw [← hY5,← hs4];exact Cd.new_at Y4 _
  have c50:Y5.cell? ⟨w.heap.size+5,0,none⟩=some (.int .i64 0):=by rw [Lib.cell_of_heap n5];rfl
  have c51:Y5.cell? ⟨w.heap.size+5,1,none⟩=some (.slice none 0 0):=by rw [Lib.cell_of_heap n5];rfl
  have c52:Y5.cell? ⟨w.heap.size+5,2,none⟩=some (.slice none 0 0):=by rw [Lib.cell_of_heap n5];rfl
  have f5:∀ j,Y5.frozen? ⟨w.heap.size+5,j,none⟩=false:=fun j=>by simp [World.frozen?,n5]
  have f50:=f5 0;have f51:=f5 1;have f52:=f5 2
  have d50:Y5.cell? ⟨w.heap.size+3,0,none⟩=some (.int .i64 0):=by rw [Lib.cell_of_heap r5];rfl
  have d51:Y5.cell? ⟨w.heap.size+3,1,none⟩=some (.slice none 0 0):=by rw [Lib.cell_of_heap r5];rfl
  have d52:Y5.cell? ⟨w.heap.size+3,2,none⟩=some (.slice none 0 0):=by rw [Lib.cell_of_heap r5];rfl
  have e5:∀ j,Y5.frozen? ⟨w.heap.size+3,j,none⟩=false:=fun j=>by simp [World.frozen?,r5]
  have e50:=e5 0;have e51:=e5 1;have e52:=e5 2
  clear e5 hb1 hb2 hb3 hb3b hb4 rY4 r0 f5 i0 i1 i2 i3 hcell hx q4
  have hnb:(st != 1)=true:=by simp [hst]
  have hatI:(at':Int) < (f.ins.length:Int):=by omega
  clear hst
  unfold Cd.fnV Cd.shV
  go_enter Tryz.func49,Tryz.ntmps49
  go_wp2_with fail
  exact bodyPost_ret (v:=Cd.shV 2 (.slice none 0 0) (.slice none 0 0)) (by simp [results,Tryz.results49,go_sem,d50,d51,d52,Cd.shV]) rfl ⟨⟨_,rfl,rfl⟩,Cd.Below.set (Cd.Below.set (Cd.Below.set (Cd.Below.set (Cd.Below.set (Cd.Below.set hb5 5 0 _) 5 1 _) 5 2 _) 3 0 _) 3 1 _) 3 2 _⟩
end Go.Proofs.YtbkhedpabfanoaaGreatDoor
