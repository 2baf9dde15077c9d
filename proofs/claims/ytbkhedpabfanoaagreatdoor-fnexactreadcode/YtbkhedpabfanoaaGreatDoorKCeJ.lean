import Derived.Test.YtbkhedpabfanoaaGreatDoorKCeE
import Derived.Test.YtbkhedpabfanoaaGreatDoorKCdA
import Derived.Test.YtbkhedpabfanoaaGreatDoorKCdH
namespace Go.Proofs.YtbkhedpabfanoaaGreatDoor
open Go.RowKit

def Cd.rowOf (m:Nat):Bool × Int × Int × Int × Int :=
  if m=1 then (true,0,0,16,0) else if m=2 then (true,0,0,17,0) else if m=3 then (true,12,0,0,0) else if m=4 then (false,12,0,0,0)
  else if m=5 then (true,12,0,18,0) else if m=6 then (true,12,12,19,0) else if m=7 then (true,11,0,16,0) else if m=8 then (true,13,0,20,0)
  else if m=9 then (true,14,0,21,0) else if m=10 then (true,0,0,0,1) else if m=11 then (true,1,0,0,2) else if m=12 then (true,15,0,0,3)
  else if m=13 then (false,2,0,0,3) else if m=14 then (false,2,2,0,0) else if m=15 then (false,2,0,0,0) else (false,0,0,0,0)
structure Cd.InsTab (w:World):Prop where
  lt:7 < w.heap.size
  hasA:∀ m:Nat,1≤m→m≤16→w.cell? ⟨7,m * 5,none⟩=some (.bool (Cd.rowOf m).1)
  take0:∀ m:Nat,1≤m→m≤16→w.cell? ⟨7,m * 5+1,none⟩=some (.int .i64 (Cd.rowOf m).2.1)
  take1:∀ m:Nat,1≤m→m≤16→w.cell? ⟨7,m * 5+2,none⟩=some (.int .i64 (Cd.rowOf m).2.2.1)
  puts:∀ m:Nat,1≤m→m≤16→w.cell? ⟨7,m * 5+3,none⟩=some (.int .i64 (Cd.rowOf m).2.2.2.1)
  goes:∀ m:Nat,1≤m→m≤16→w.cell? ⟨7,m * 5+4,none⟩=some (.int .i64 (Cd.rowOf m).2.2.2.2)
theorem Cd.InsTab.below {w w':World} (h:Cd.InsTab w) (hb:Below w.heap.size w w'):Cd.InsTab w' :=
  ⟨Nat.lt_of_lt_of_le h.lt hb.size,fun m h1 h2=>(hb.cell (p:=⟨_,_,none⟩) h.lt).trans (h.hasA m h1 h2),fun m h1 h2=>(hb.cell (p:=⟨_,_,none⟩) h.lt).trans (h.take0 m h1 h2),fun m h1 h2=>(hb.cell (p:=⟨_,_,none⟩) h.lt).trans (h.take1 m h1 h2),fun m h1 h2=>(hb.cell (p:=⟨_,_,none⟩) h.lt).trans (h.puts m h1 h2),fun m h1 h2=>(hb.cell (p:=⟨_,_,none⟩) h.lt).trans (h.goes m h1 h2)⟩
set_option maxRecDepth 100000 in
set_option maxHeartbeats 2000000 in
theorem Cd.goesOn_any (i:Cd.Ins) (at':Nat) (h1:1≤i.op) (h16:i.op≤16) (hat:at'≤1048576) (ha:i.op=10∨i.op=11→0≤i.a) (w:World) (hT:Cd.InsTab w) :
    Calls Tryz.prog 93 #[Cd.insV i,.int .i64 (at':Int)] w fun e w' => ∃ v,e = .returned v∧Cd.IntsAt w'.heap.size w' v (Cd.nats (Cd.goes i at'))∧Below w.heap.size w w':=by
  obtain ⟨op,a,n,text⟩:=i
  simp only at h1 h16 ha
  obtain ⟨m,rfl⟩:∃ m:Nat,op=(m:Int):=⟨op.toNat,by omega⟩
  have hm1:1≤m:=by omega
  have hm16:m≤16:=by omega
  unfold Cd.insV
  have hw1:wrap64 ((at':Int)+1)=(at':Int)+1:=IntWalk.wrap64_in _ (by omega)
  obtain ⟨Y1,hY1⟩:∃ Y,w.alloc (.cells #[.int .i64 (m:Int),.int .i64 a,.int .i64 n,.string text] 54)=Y:=⟨_,rfl⟩
  have hb1:Below w.heap.size w Y1:=by rw [← hY1];exact Cd.b1 w _
  have hs1:Y1.heap.size=w.heap.size+1:=by rw [← hY1];exact World.size_alloc _ _
  have p1_0:Y1.heap[w.heap.size]? = some (.cells #[.int .i64 (m:Int),.int .i64 a,.int .i64 n,.string text] 54):=by rw [← hY1];exact Cd.new_at w _
  have c0_0:Y1.cell? ⟨w.heap.size,0,none⟩=some (.int .i64 (m:Int)):=by rw [Lib.cell_of_heap p1_0];rfl
  have c0_1:Y1.cell? ⟨w.heap.size,1,none⟩=some (.int .i64 a):=by rw [Lib.cell_of_heap p1_0];rfl
  have c0_2:Y1.cell? ⟨w.heap.size,2,none⟩=some (.int .i64 n):=by rw [Lib.cell_of_heap p1_0];rfl
  have c0_3:Y1.cell? ⟨w.heap.size,3,none⟩=some (.string text):=by rw [Lib.cell_of_heap p1_0];rfl
  clear p1_0
  have tg:Y1.cell? ⟨7,m * 5+4,none⟩=some (.int .i64 (Cd.rowOf m).2.2.2.2):=(hb1.cell (p:=⟨_,_,none⟩) hT.lt).trans (hT.goes m hm1 hm16)
  clear hT
  have hmI:(m:Int) < 17:=by omega
  by_cases h10:m=10
  · have HG:Hid (Cd.goes ⟨(m:Int),a,n,text⟩ at'=[a.toNat]):=by rw [Hid,h10];simp [Cd.goes]
    have e:(Cd.rowOf m).2.2.2.2=1:=by rw [h10];rfl
    rw [e] at tg
    obtain ⟨k,rfl⟩:∃ k:Nat,a=(k:Int):=⟨a.toNat,by have:=ha (.inl (by omega));omega⟩
    rw [HG.out]
    clear h10 ha e
    go_enter Tryz.func93,Tryz.ntmps93
    go_wp2_with fail
    go_ret
    exact ⟨.slice (some ⟨Y1.heap.size,0,none⟩) 1 1,by simp [hs1],Cd.IntsAt.newZ (Z:=Y1) (hs:=[(k:Int)]) _ _ rfl,Cd.Below.new hb1 _⟩
  · by_cases h11:m=11
    · have HG:Hid (Cd.goes ⟨(m:Int),a,n,text⟩ at'=[a.toNat,at'+1]):=by rw [Hid,h11];simp [Cd.goes]
      have e:(Cd.rowOf m).2.2.2.2=2:=by rw [h11];rfl
      rw [e] at tg
      obtain ⟨k,rfl⟩:∃ k:Nat,a=(k:Int):=⟨a.toNat,by have:=ha (.inr (by omega));omega⟩
      rw [HG.out]
      clear h10 h11 ha e
      go_enter Tryz.func93,Tryz.ntmps93
      go_wp2_with fail
      go_ret
      exact ⟨.slice (some ⟨Y1.heap.size,0,none⟩) 2 2,by simp [hs1],Cd.IntsAt.newZ (Z:=Y1) (hs:=[(k:Int),(at':Int)+1]) _ _ rfl,Cd.Below.new hb1 _⟩
    · by_cases h12:m=12∨m=13
      · have HG:Hid (Cd.goes ⟨(m:Int),a,n,text⟩ at'=[]):=by
          rw [Hid];rcases h12 with h | h <;> (rw [h];simp [Cd.goes])
        have e:(Cd.rowOf m).2.2.2.2=3:=by rcases h12 with h | h <;> (rw [h];rfl)
        rw [e] at tg
        rw [HG.out]
        clear h10 h11 h12 ha e
        go_enter Tryz.func93,Tryz.ntmps93
        go_wp2_with fail
        go_ret
        exact ⟨.slice none 0 0,rfl,⟨none,0,rfl,fun i hi=>by simp [Cd.nats] at hi⟩,hb1⟩
      · have HG:Hid (Cd.goes ⟨(m:Int),a,n,text⟩ at'=[at'+1]):=by
          rw [Hid];unfold Cd.goes
          rw [if_neg (by simp only;omega),if_neg (by simp only;omega),if_neg (by simp only;omega)]
        have e:(Cd.rowOf m).2.2.2.2=0:=by
          have h:m=1∨m=2∨m=3∨m=4∨m=5∨m=6∨m=7∨m=8∨m=9∨m=14∨m=15∨m=16:=by omega
          rcases h with h | h | h | h | h | h | h | h | h | h | h | h <;> (rw [h];rfl)
        rw [e] at tg
        rw [HG.out]
        clear h10 h11 h12 ha e
        go_enter Tryz.func93,Tryz.ntmps93
        go_wp2_with fail
        go_ret
        exact ⟨.slice (some ⟨Y1.heap.size,0,none⟩) 1 1,by simp [hs1],Cd.IntsAt.newZ (Z:=Y1) (hs:=[(at':Int)+1]) _ _ rfl,Cd.Below.new hb1 _⟩
end Go.Proofs.YtbkhedpabfanoaaGreatDoor
namespace Go.Proofs.YtbkhedpabfanoaaGreatDoor

theorem Cd.Answer.one {c:List Cd.Fn} {r q:Int × Int × Int} (h:Cd.Answer c r) (h':Cd.Answer c q):r=q:=by
  unfold Cd.Answer at h h'
  by_cases hp:(Cd.plain c).1≠0
  · rw [if_pos hp] at h h';rw [h,h']
  · rw [if_neg hp] at h h'
    obtain ⟨XS,hl,hls,hr⟩:=h
    obtain ⟨YS,hl',hls',hr'⟩:=h'
    have e:XS=YS:=by
      apply List.ext_getElem (by rw [hl,hl'])
      intro k h1 h2
      exact (hls k (by omega) h1).one (hls' k (by omega) h2)
    subst e
    rcases hr with ⟨k,u,hk,hk',hu,hun,hj,hq,rfl⟩ | ⟨ha,rfl⟩
    · rcases hr' with ⟨k2,u2,hk2,hk2',hu2,hun2,hj2,hq2,rfl⟩ | ⟨ha,rfl⟩
      · have ek:k=k2:=by
          rcases Nat.lt_trichotomy k k2 with h | h | h
          · have:=hq2 k h u hu;rw [this] at hun;simp at hun
          · exact h
          · have:=hq k2 h u2 hu2;rw [this] at hun2;simp at hun2
        subst ek
        have eu:u=u2:=by
          rcases Nat.lt_trichotomy u u2 with h | h | h
          · have:=hj2 u h;rw [this] at hun;simp at hun
          · exact h
          · have:=hj u2 h;rw [this] at hun2;simp at hun2
        rw [eu]
      · have:=ha k hk hk' u hu;rw [this] at hun;simp at hun
    · rcases hr' with ⟨k2,u2,hk2,hk2',hu2,hun2,hj2,hq2,rfl⟩ | ⟨_,rfl⟩
      · have:=ha k2 hk2 hk2' u2 hu2;rw [this] at hun2;simp at hun2
      · rfl
def Cd.fitE (e h:Int):Bool:=if e=11 then Cd.isInt h else if e=12 then Cd.inR h 1 10 else decide (h=e)
def Cd.fitEs : List Int→List Int→Bool
  | [],[]=>true
  | e::es,h::hs=>Cd.fitE e h && Cd.fitEs es hs
  | _,_=>false
def Cd.ents (c:List Cd.Fn) (f:Cd.Fn) (i:Cd.Ins):List Int :=
  if i.op=3∨i.op=4∨i.op=5 then [12]
  else if i.op=6 then [12,12]
  else if i.op=7 then [11]
  else if i.op=8 then (Cd.want i.a).map (fun t=>if t=0 then 11 else t)
  else if i.op=9 then (c.getD i.a.toNat Cd.noFn).params
  else if i.op=11 then [1]
  else if i.op=12 then (if f.result=0 then [] else [f.result])
  else if i.op=13∨i.op=15 then [2]
  else if i.op=14 then [2,2]
  else []
def Cd.putT (c:List Cd.Fn) (i:Cd.Ins) (s tk:List Int):Int × Bool :=
  if i.op=1∨i.op=7 then (i.a,decide (i.a≠0))
  else if i.op=2 then (s.getD i.a.toNat 0,decide (s.getD i.a.toNat 0≠0))
  else if i.op=5 then (Cd.un i.a (tk.getD 0 0),decide (Cd.un i.a (tk.getD 0 0)≠0))
  else if i.op=6 then (Cd.bin i.a (tk.getD 0 0) (tk.getD 1 0),decide (Cd.bin i.a (tk.getD 0 0) (tk.getD 1 0)≠0))
  else if i.op=8 then (Cd.makes i.a,decide (Cd.makes i.a≠0))
  else if i.op=9 then ((c.getD i.a.toNat Cd.noFn).result,true)
  else (0,true)
def Cd.onto (k:List Int) (p:Int):List Int:=if p=0 then k else k++[p]
def Cd.leftP (c:List Cd.Fn) (f:Cd.Fn) (i:Cd.Ins) (at':Nat) (s k:List Int):Cd.Sh :=
  if k.length < (Cd.ents c f i).length then .clash
  else if (Cd.goes i at').any (fun v=>decide (v=f.ins.length))=true then .clash
  else if Cd.fitEs (Cd.ents c f i) (k.drop (k.length - (Cd.ents c f i).length))=false then .clash
  else if (Cd.putT c i s (k.drop (k.length - (Cd.ents c f i).length))).2=false∨600 < (Cd.onto (k.take (k.length - (Cd.ents c f i).length)) (Cd.putT c i s (k.drop (k.length - (Cd.ents c f i).length))).1).length then .clash
  else .known (if i.op=3 then s.take i.a.toNat++k.drop (k.length - (Cd.ents c f i).length)++s.drop (i.a.toNat+1) else s) (Cd.onto (k.take (k.length - (Cd.ents c f i).length)) (Cd.putT c i s (k.drop (k.length - (Cd.ents c f i).length))).1)
theorem Cd.drop1 {k:List Int} (h:1≤k.length):k.drop (k.length - 1)=[Cd.top k]:=by
  rw [List.drop_eq_getElem_cons (by omega),List.drop_eq_nil_of_le (by omega)]
  unfold Cd.top
  rw [List.getLast?_eq_getElem?,List.getElem?_eq_getElem (by omega)];rfl
theorem Cd.drop2 {k:List Int} (h:2≤k.length):k.drop (k.length - 2)=[Cd.below k,Cd.top k]:=by
  rw [List.drop_eq_getElem_cons (by omega),show k.length - 2+1=k.length - 1 by omega,Cd.drop1 (by omega)]
  unfold Cd.below
  rw [List.getLast?_eq_getElem?,List.getElem?_eq_getElem (by simp;omega)]
  simp only [List.length_take,Option.getD_some,List.getElem_take]
  congr 2
  omega
theorem Cd.want_fit : ∀ (ws hs:List Int),(∀ t ∈ ws,t≠11∧t≠12)→(∀ t ∈ hs,1≤t∧t≤10)→Cd.fitEs (ws.map (fun t=>if t=0 then 11 else t)) hs=Cd.fitL ws hs
  | [],[],_,_=>rfl
  | [],_::_,_,_=>rfl
  | _::_,[],_,_=>rfl
  | w::ws,h::hs,h1,h2=>by
    have ih:=Cd.want_fit ws hs (fun t ht=>h1 t (by simp [ht])) (fun t ht=>h2 t (by simp [ht]))
    simp only [List.map_cons,Cd.fitEs,Cd.fitL,ih]
    congr 1
    have a:=h1 w (by simp)
    have b:=h2 h (by simp)
    unfold Cd.fitE Cd.fit1
    by_cases e:w=0
    · subst e
      have:¬ h=0:=by omega
      simp [this]
    · simp [e,a.1,a.2]
theorem Cd.same_fit : ∀ (ps hs:List Int),(∀ t ∈ ps,1≤t∧t≤10)→Cd.fitEs ps hs=decide (hs=ps)
  | [],[],_=>rfl
  | [],_::_,_=>by simp [Cd.fitEs]
  | _::_,[],_=>by simp [Cd.fitEs]
  | p::ps,h::hs,h1=>by
    have ih:=Cd.same_fit ps hs (fun t ht=>h1 t (by simp [ht]))
    have a:=h1 p (by simp)
    simp only [Cd.fitEs,ih,Cd.fitE]
    rw [if_neg (by omega),if_neg (by omega)]
    simp
theorem Cd.makes_pos (a:Int):Cd.makes a≠0:=by
  unfold Cd.makes
  repeat (first | split | omega)
theorem Cd.want_in (a:Int):∀ t ∈ Cd.want a,0≤t∧t≤10:=by
  unfold Cd.want
  intro t ht
  repeat' (first | split at ht | (simp at ht <;> omega))
theorem Cd.goes_end (c:List Cd.Fn) (f:Cd.Fn) (i:Cd.Ins) (at':Nat) (hok:Cd.insOk c f i=true) (hat:at' < f.ins.length):(Cd.goes i at').any (fun v=>decide (f.ins.length≤v))=(Cd.goes i at').any (fun v=>decide (v=f.ins.length)):=by
  have h10:i.op=10∨i.op=11→i.a.toNat≤f.ins.length:=fun h=>by
    unfold Cd.insOk at hok
    split at hok
    · simp at hok
    · rw [if_neg (by omega)] at hok
      split at hok
      · simp at hok
      · rw [if_neg (by omega),if_neg (by omega),if_neg (by omega),if_neg (by omega),if_neg (by omega),if_neg (by omega)] at hok
        first | (rw [if_pos h] at hok;simp [Cd.inR] at hok;omega) | (simp [Cd.inR] at hok;omega)
  unfold Cd.goes
  split
  · rfl
  · split
    · have:=h10 (by omega)
      simp;omega
    · split
      · have:=h10 (by omega)
        have e1:(f.ins.length≤i.a.toNat) ↔ (i.a.toNat=f.ins.length):=by omega
        have e2:(f.ins.length≤at'+1) ↔ (at'+1=f.ins.length):=by omega
        simp [e1,e2]
      · simp;omega
theorem Cd.insOk_in {c:List Cd.Fn} {f:Cd.Fn} {i:Cd.Ins} (hok:Cd.insOk c f i=true):1≤i.op∧i.op≤16:=by
  unfold Cd.insOk at hok
  split at hok
  · simp at hok
  · rename_i h
    have:¬ Cd.inR i.op 1 16=false:=fun e=>h (.inl e)
    simp [Cd.inR] at this
    omega
theorem Cd.set_parts {s:List Int} {a:Nat} (t:Int) (h:a < s.length):s.take a++[t]++s.drop (a+1)=s.set a t:=by
  rw [List.set_eq_take_append_cons_drop,if_pos h];simp
end Go.Proofs.YtbkhedpabfanoaaGreatDoor
namespace Go.Proofs.YtbkhedpabfanoaaGreatDoor

structure Cd.Reach (c:List Cd.Fn) (f:Cd.Fn) (i:Cd.Ins) (s k:List Int):Prop where
  ok:Cd.insOk c f i=true
  stack:∀ t ∈ k,1≤t∧t≤10
  slot:i.op=2∨i.op=3→i.a.toNat < s.length
  pars:i.op=9→(∀ t ∈ (c.getD i.a.toNat Cd.noFn).params,1≤t∧t≤10)
  nz:i.op=1∨i.op=7→i.a≠0
  ret:i.op=12→(i.a=1∧f.result≠0)∨(i.a=0∧f.result=0)
  res:0≤f.result∧f.result≤10
theorem Cd.top_in {k:List Int} (h:∀ t ∈ k,1≤t∧t≤10) (hk:0 < k.length):1≤Cd.top k∧Cd.top k≤10:=by
  apply h
  unfold Cd.top
  rw [List.getLast?_eq_getElem?,List.getElem?_eq_getElem (by omega)]
  exact List.getElem_mem _
theorem Cd.below_in {k:List Int} (h:∀ t ∈ k,1≤t∧t≤10) (hk:1 < k.length):1≤Cd.below k∧Cd.below k≤10:=by
  have e:=Cd.drop2 (k:=k) (by omega)
  apply h
  have:Cd.below k ∈ k.drop (k.length - 2):=by rw [e];simp
  exact List.mem_of_mem_drop this
theorem Cd.clash4 {A B C D A' B' C':Prop} [Decidable A] [Decidable B] [Decidable C] [Decidable D] [Decidable A'] [Decidable B'] [Decidable C'] {x y:Cd.Sh}
    (h1:(A∨B∨C∨D) ↔ (A'∨B'∨C')) (h2:¬ (A'∨B'∨C')→x=y) :
    (if A then Cd.Sh.clash else if B then .clash else if C then .clash else if D then .clash else x)=(if A' then Cd.Sh.clash else if B' then .clash else if C' then .clash else y):=by
  by_cases h:A'∨B'∨C'
  · have h':=h1.2 h
    have e1:(if A then Cd.Sh.clash else if B then .clash else if C then .clash else if D then .clash else x) = .clash:=by
      rcases h' with h | h | h | h
      · rw [if_pos h]
      · rw [if_pos h];simp
      · rw [if_pos h];simp
      · rw [if_pos h];simp
    have e2:(if A' then Cd.Sh.clash else if B' then .clash else if C' then .clash else y) = .clash:=by
      rcases h with h | h | h
      · rw [if_pos h]
      · rw [if_pos h];simp
      · rw [if_pos h];simp
    rw [e1,e2]
  · have h':¬ (A∨B∨C∨D):=fun e=>h (h1.1 e)
    simp only [not_or] at h h'
    rw [if_neg h'.1,if_neg h'.2.1,if_neg h'.2.2.1,if_neg h'.2.2.2,if_neg h.1,if_neg h.2.1,if_neg h.2.2,h2 (by simp only [not_or];exact h)]
theorem Cd.left_shape {c:List Cd.Fn} {f:Cd.Fn} {i:Cd.Ins} {at':Nat} {s k:List Int} (hat:at' < f.ins.length) (hok:Cd.insOk c f i=true)
    (h1:(k.length < (Cd.ents c f i).length∨Cd.fitEs (Cd.ents c f i) (k.drop (k.length - (Cd.ents c f i).length))=false∨(Cd.putT c i s (k.drop (k.length - (Cd.ents c f i).length))).2=false) ↔ ((Cd.gives c f i s k).2.2=false∨k.length < (Cd.gives c f i s k).1))
    (h2:¬ ((Cd.gives c f i s k).2.2=false∨k.length < (Cd.gives c f i s k).1)→Cd.onto (k.take (k.length - (Cd.ents c f i).length)) (Cd.putT c i s (k.drop (k.length - (Cd.ents c f i).length))).1=k.take (k.length - (Cd.gives c f i s k).1)++(Cd.gives c f i s k).2.1)
    (h3:i.op=3→0 < k.length→i.a.toNat < s.length) :
    Cd.leftP c f i at' s k=Cd.leaves c f i at' s k:=by
  unfold Cd.leftP Cd.leaves
  rw [Cd.goes_end c f i at' hok hat]
  apply Cd.clash4
  · by_cases q:(Cd.gives c f i s k).2.2=false∨k.length < (Cd.gives c f i s k).1
    · have:=h1.2 q
      constructor
      · intro _;exact .inl q
      · intro _
        rcases this with h | h | h
        · exact .inl h
        · exact .inr (.inr (.inl h))
        · exact .inr (.inr (.inr (.inl h)))
    · have q1:¬ _:=fun e=>q (h1.1 e)
      simp only [not_or] at q1
      rw [h2 q]
      constructor
      · rintro (h | h | h | h | h)
        · exact (q1.1 h).elim
        · exact .inr (.inl h)
        · exact (q1.2.1 h).elim
        · exact (q1.2.2 h).elim
        · exact .inr (.inr h)
      · rintro (h | h | h)
        · exact (q h).elim
        · exact .inr (.inl h)
        · exact .inr (.inr (.inr (.inr h)))
  · intro hq
    have q:¬ _:=fun e=>hq (.inl e)
    have q1:¬ _:=fun e=>q (h1.1 e)
    simp only [not_or] at q1
    rw [h2 q]
    by_cases e3:i.op=3
    · have he:Cd.ents c f i=[12]:=by unfold Cd.ents;rw [if_pos (.inl e3)]
      have hk:0 < k.length:=by have:=q1.1;rw [he,List.length_singleton] at this;omega
      rw [if_pos e3,if_pos e3,he,List.length_singleton,Cd.drop1 (by omega),Cd.set_parts _ (h3 e3 hk)]
    · rw [if_neg e3,if_neg e3]
def Cd.Same1 (c:List Cd.Fn) (f:Cd.Fn) (i:Cd.Ins) (s k:List Int):Prop :=
  ((k.length < (Cd.ents c f i).length∨Cd.fitEs (Cd.ents c f i) (k.drop (k.length - (Cd.ents c f i).length))=false∨(Cd.putT c i s (k.drop (k.length - (Cd.ents c f i).length))).2=false) ↔ ((Cd.gives c f i s k).2.2=false∨k.length < (Cd.gives c f i s k).1)) ∧
  (¬ ((Cd.gives c f i s k).2.2=false∨k.length < (Cd.gives c f i s k).1)→Cd.onto (k.take (k.length - (Cd.ents c f i).length)) (Cd.putT c i s (k.drop (k.length - (Cd.ents c f i).length))).1=k.take (k.length - (Cd.gives c f i s k).1)++(Cd.gives c f i s k).2.1)
theorem Cd.same8 (c:List Cd.Fn) (f:Cd.Fn) (a n:Int) (text:ByteArray) (s k:List Int) (hst:∀ t ∈ k,1≤t∧t≤10):Cd.Same1 c f ⟨8,a,n,text⟩ s k:=by
  have he:Cd.ents c f ⟨8,a,n,text⟩=(Cd.want a).map (fun t=>if t=0 then 11 else t):=by simp [Cd.ents]
  have hp:∀ tk,Cd.putT c ⟨8,a,n,text⟩ s tk=(Cd.makes a,decide (Cd.makes a≠0)):=fun tk=>by simp [Cd.putT]
  have hm:=Cd.makes_pos a
  have hf:=Cd.want_fit (Cd.want a) (k.drop (k.length - (Cd.want a).length)) (fun t ht=>by have:=Cd.want_in a t ht;omega) (fun t ht=>hst t (List.mem_of_mem_drop ht))
  unfold Cd.Same1
  rw [he,hp,List.length_map,hf]
  by_cases q:k.length < (Cd.want a).length
  · have hg:Cd.gives c f ⟨8,a,n,text⟩ s k=(0,[],false):=by simp [Cd.gives,q]
    rw [hg]
    simp [q]
  · have hg:Cd.gives c f ⟨8,a,n,text⟩ s k=((Cd.want a).length,[Cd.built a (k.drop (k.length - (Cd.want a).length))],decide (Cd.built a (k.drop (k.length - (Cd.want a).length))≠0)):=by simp [Cd.gives,q]
    rw [hg]
    unfold Cd.built
    cases hL:Cd.fitL (Cd.want a) (k.drop (k.length - (Cd.want a).length))
    · simp [q]
    · simp [q,hm,Cd.onto]
theorem Cd.same9 (c:List Cd.Fn) (f:Cd.Fn) (a n:Int) (text:ByteArray) (s k:List Int) (hpa:∀ t ∈ (c.getD a.toNat Cd.noFn).params,1≤t∧t≤10):Cd.Same1 c f ⟨9,a,n,text⟩ s k:=by
  obtain ⟨g,hg⟩:∃ g,c.getD a.toNat Cd.noFn=g:=⟨_,rfl⟩
  rw [hg] at hpa
  have he:Cd.ents c f ⟨9,a,n,text⟩=g.params:=by rw [← hg];simp [Cd.ents]
  have hp:∀ tk,Cd.putT c ⟨9,a,n,text⟩ s tk=(g.result,true):=fun tk=>by rw [← hg];simp [Cd.putT]
  have hf:=Cd.same_fit g.params (k.drop (k.length - g.params.length)) hpa
  have hgv:Cd.gives c f ⟨9,a,n,text⟩ s k=(if k.length < g.params.length then (0,[],false) else if k.drop (k.length - g.params.length)=g.params then (g.params.length,if g.result=0 then [] else [g.result],true) else (0,[],false)):=by rw [← hg];simp [Cd.gives]
  unfold Cd.Same1
  rw [he,hp,hf,hgv]
  by_cases q:k.length < g.params.length
  · simp [q]
  · rw [if_neg q]
    by_cases e:k.drop (k.length - g.params.length)=g.params
    · rw [if_pos e]
      simp [q,e,Cd.onto]
      split <;> simp
    · rw [if_neg e]
      simp [e]
theorem Cd.same12 (c:List Cd.Fn) (f:Cd.Fn) (a n:Int) (text:ByteArray) (s k:List Int) (hre:(a=1∧f.result≠0)∨(a=0∧f.result=0)) (hrr:0≤f.result∧f.result≤10):Cd.Same1 c f ⟨12,a,n,text⟩ s k:=by
  have hp:∀ tk,Cd.putT c ⟨12,a,n,text⟩ s tk=(0,true):=fun tk=>by simp [Cd.putT]
  unfold Cd.Same1
  rcases hre with ⟨rfl,hr⟩ | ⟨rfl,hr⟩
  · have he:Cd.ents c f ⟨12,1,n,text⟩=[f.result]:=by simp [Cd.ents,hr]
    have e11:¬ f.result=11:=by omega
    have e12:¬ f.result=12:=by omega
    rw [he,hp]
    by_cases k0:0 < k.length
    · have hd1:=Cd.drop1 (k:=k) (by omega)
      have n0:¬ k=[]:=by rintro rfl;simp at k0
      have n1:¬ k.length < 1:=by omega
      rw [List.length_singleton,hd1]
      simp [Cd.gives,Cd.fitEs,Cd.fitE,e11,e12,k0,n1,Cd.onto]
    · have:k=[]:=List.length_eq_zero_iff.1 (by omega)
      subst this
      simp [Cd.gives]
  · have he:Cd.ents c f ⟨12,0,n,text⟩=[]:=by simp [Cd.ents,hr]
    rw [he,hp]
    simp [Cd.gives,Cd.fitEs,Cd.onto]
theorem Cd.left_eq {c:List Cd.Fn} {f:Cd.Fn} {i:Cd.Ins} {at':Nat} {s k:List Int} (hat:at' < f.ins.length) (h:Cd.Reach c f i s k):Cd.leftP c f i at' s k=Cd.leaves c f i at' s k:=by
  obtain ⟨g1,g16⟩:=Cd.insOk_in h.ok
  have hst:=h.stack
  have hsl:=h.slot
  have hpa:=h.pars
  have hnz:=h.nz
  have hre:=h.ret
  have hrr:=h.res
  suffices hS:Cd.Same1 c f i s k from Cd.left_shape hat h.ok hS.1 hS.2 (fun e _=>hsl (.inr e))
  obtain ⟨op,a,n,text⟩:=i
  simp only at g1 g16 hsl hpa hnz hre
  have hc:op=8∨op=9∨op=12∨op=1∨op=2∨op=3∨op=4∨op=5∨op=6∨op=7∨op=10∨op=11∨op=13∨op=14∨op=15∨op=16:=by omega
  rcases hc with rfl | rfl | rfl | hc
  · exact Cd.same8 c f a n text s k hst
  · exact Cd.same9 c f a n text s k (hpa rfl)
  · exact Cd.same12 c f a n text s k (hre rfl) hrr
  · by_cases k0:0 < k.length
    · have ht:=Cd.top_in hst k0
      have hd1:=Cd.drop1 (k:=k) (by omega)
      have n0:¬ k=[]:=by rintro rfl;simp at k0
      by_cases k1:1 < k.length
      · have hbw:=Cd.below_in hst k1
        have hd2:=Cd.drop2 (k:=k) (by omega)
        have k2:¬ k.length < 2:=by omega
        have k1n:¬ k.length < 1:=by omega
        rcases hc with rfl | rfl | rfl | rfl | rfl | rfl | rfl | rfl | rfl | rfl | rfl | rfl | rfl
        all_goals
          refine ⟨?_, ?_⟩
          · first
            | (simp [Cd.ents,Cd.gives,Cd.putT,Cd.fitEs,Cd.fitE,Cd.inR,hd1,hd2,n0,k2];done)
            | (simp [Cd.ents,Cd.gives,Cd.putT,Cd.fitEs,Cd.fitE,Cd.inR,hd1,hd2,n0,k2];omega)
          · first
            | (simp [Cd.ents,Cd.gives,Cd.putT,Cd.onto,hd1,hd2,n0,k2,k1n];done)
            | (simp [Cd.ents,Cd.gives,Cd.putT,Cd.onto,k1n,hnz];done)
            | (simp [Cd.ents,Cd.gives,Cd.putT,Cd.onto,hd1,hd2,n0,k2,k1n];intro h h';simp [h,h'];done)
            | (simp [Cd.ents,Cd.gives,Cd.putT,Cd.onto,hd1,hd2,n0,k2,k1n];intro h;simp [h];done)
      · obtain ⟨x,rfl⟩:∃ x,k=[x]:=by
          match k,k0,k1 with
          | [x],_,_=>exact ⟨x,rfl⟩
          | _::_::_,_,h=>simp at h
        have hx:1≤x∧x≤10:=hst x (by simp)
        obtain ⟨x1,x10⟩:=hx
        have tx:Cd.top [x]=x:=rfl
        have bx:Cd.below [x]=0:=rfl
        have bb:∀ o,Cd.bin o 0 x=0:=fun o=>by unfold Cd.bin;rw [if_pos (.inl (by omega))]
        have y1:¬ x < 1:=by omega
        have y10:¬ 10 < x:=by omega
        clear hst ht hd1 k0 k1 h
        rcases hc with rfl | rfl | rfl | rfl | rfl | rfl | rfl | rfl | rfl | rfl | rfl | rfl | rfl
        all_goals
          refine ⟨?_, ?_⟩
          · first
            | (simp [Cd.ents,Cd.gives,Cd.putT,Cd.fitEs,Cd.fitE,Cd.inR,tx,bx,bb,x1,x10];done)
            | (simp [Cd.ents,Cd.gives,Cd.putT,Cd.fitEs,Cd.fitE,tx,hnz];done)
          · first
            | (simp [Cd.ents,Cd.gives,Cd.putT,Cd.onto,tx,bx,bb];done)
            | (simp [Cd.ents,Cd.gives,Cd.putT,Cd.onto,tx,hnz];done)
            | (simp [Cd.ents,Cd.gives,Cd.putT,Cd.onto,tx,bx,bb];intro h;simp [h];done)
    · have:k=[]:=List.length_eq_zero_iff.1 (by omega)
      subst this
      rcases hc with rfl | rfl | rfl | rfl | rfl | rfl | rfl | rfl | rfl | rfl | rfl | rfl | rfl
      all_goals
        refine ⟨?_, ?_⟩
        · first
          | (simp [Cd.ents,Cd.gives,Cd.putT,Cd.fitEs,Cd.top,Cd.below,Cd.bin,Cd.un,Cd.isInt];done)
          | (simp [Cd.ents,Cd.gives,Cd.putT,Cd.fitEs,hnz];done)
        · first
          | (simp [Cd.ents,Cd.gives,Cd.putT,Cd.onto,Cd.top,Cd.below];done)
          | (simp [Cd.ents,Cd.gives,Cd.putT,Cd.onto,hnz];done)
          | (simp [Cd.ents,Cd.gives,Cd.putT,Cd.onto,Cd.top,Cd.below];intro h;simp [h];done)
end Go.Proofs.YtbkhedpabfanoaaGreatDoor
namespace Go.Proofs.YtbkhedpabfanoaaGreatDoor

def Cd.fine : Cd.Sh→Prop
  | .known s k=>(∀ t ∈ s,0≤t∧t≤10)∧(∀ t ∈ k,1≤t∧t≤10)∧k.length≤600
  | _=>True
def Cd.Fns (c:List Cd.Fn):Prop := ∀ g ∈ c,(0≤g.result∧g.result≤10)∧∀ t ∈ g.params,1≤t∧t≤10
theorem Cd.Fns.get {c:List Cd.Fn} (h:Cd.Fns c) (j:Nat):(0≤(c.getD j Cd.noFn).result∧(c.getD j Cd.noFn).result≤10)∧∀ t ∈ (c.getD j Cd.noFn).params,1≤t∧t≤10:=by
  by_cases hj:j < c.length
  · rw [List.getD_eq_getElem?_getD,List.getElem?_eq_getElem hj]
    exact h _ (List.getElem_mem hj)
  · rw [List.getD_eq_getElem?_getD,List.getElem?_eq_none (by omega)]
    simp [Cd.noFn]
theorem Cd.valid_ty {a n:Int} {text:ByteArray} (h:Val.valid ⟨a,n,text⟩=true):1≤a∧a≤10:=by
  unfold Val.valid at h
  simp only at h
  split at h
  · omega
  · split at h
    · omega
    · simp [Val.isInt] at h;omega
theorem Cd.insA {c:List Cd.Fn} {f:Cd.Fn} {i:Cd.Ins} (hok:Cd.insOk c f i=true) :
    (i.op=1→1≤i.a∧i.a≤10)∧(i.op=7→3≤i.a∧i.a≤10)∧(i.op=2∨i.op=3→0≤i.a∧i.a < f.slots)∧(i.op=5→1≤i.a∧i.a≤3)∧(i.op=6→3≤i.a∧i.a≤18)∧(i.op=8→1≤i.a∧i.a≤12)∧(i.op=9→0≤i.a∧i.a < c.length)∧(i.op=10∨i.op=11→0≤i.a∧i.a≤f.ins.length)∧(i.op=12→(i.a=1∧f.result≠0)∨(i.a=0∧f.result=0)):=by
  obtain ⟨op,a,n,text⟩:=i
  have hin:=Cd.insOk_in hok
  unfold Cd.insOk at hok
  simp only at hok hin ⊢
  split at hok
  · simp at hok
  · split at hok
    · have:=Cd.valid_ty hok
      refine ⟨fun _=>this, ?_, ?_, ?_, ?_, ?_, ?_, ?_, ?_⟩ <;> (intro h;omega)
    · split at hok
      · simp at hok
      · repeat' (first | (split at hok))
        all_goals simp [Cd.inR,Cd.isInt] at hok
        all_goals (refine ⟨?_, ?_, ?_, ?_, ?_, ?_, ?_, ?_, ?_⟩ <;> (intro h;omega))
theorem Cd.reach_of {c:List Cd.Fn} {f:Cd.Fn} {i:Cd.Ins} {s k:List Int} (hc:Cd.Fns c) (hr:0≤f.result∧f.result≤10) (hok:Cd.insOk c f i=true) (hl:s.length=f.slots.toNat) (hk:∀ t ∈ k,1≤t∧t≤10):Cd.Reach c f i s k:=by
  obtain ⟨a1,a7,a2,-,-,-,a9,-,a12⟩:=Cd.insA hok
  refine ⟨hok,hk,fun h => ?_,fun h=>(hc.get i.a.toNat).2,fun h => ?_,a12,hr⟩
  · have:=a2 h;omega
  · rcases h with h | h
    · have:=a1 h;omega
    · have:=a7 h;omega
theorem Cd.un_in {o t:Int} (ht:1≤t∧t≤10) (h:Cd.un o t≠0):1≤Cd.un o t∧Cd.un o t≤10:=by
  unfold Cd.un at h ⊢
  split <;> rename_i e
  · rw [if_pos e] at h
    split <;> rename_i e2
    · omega
    · rw [if_neg e2] at h;omega
  · rw [if_neg e] at h
    split <;> rename_i e2
    · exact ht
    · rw [if_neg e2] at h;omega
theorem Cd.bin_in {o a b:Int} (ha:1≤a∧a≤10) (h:Cd.bin o a b≠0):1≤Cd.bin o a b∧Cd.bin o a b≤10:=by
  revert h
  unfold Cd.bin
  repeat' (first | split)
  all_goals (intro h;first | omega | exact ha)
theorem Cd.makes_in (a:Int):1≤Cd.makes a∧Cd.makes a≤10:=by
  unfold Cd.makes
  repeat' (first | split)
  all_goals omega
theorem Cd.put_in {c:List Cd.Fn} {f:Cd.Fn} {i:Cd.Ins} {s k:List Int} (hc:Cd.Fns c) (h:Cd.Reach c f i s k) (hs:∀ t ∈ s,0≤t∧t≤10) (hl:¬ k.length < (Cd.ents c f i).length) (h2:(Cd.putT c i s (k.drop (k.length - (Cd.ents c f i).length))).2=true) :
    0≤(Cd.putT c i s (k.drop (k.length - (Cd.ents c f i).length))).1∧(Cd.putT c i s (k.drop (k.length - (Cd.ents c f i).length))).1≤10:=by
  obtain ⟨a1,a7,a2,-,-,-,a9,-,a12⟩:=Cd.insA h.ok
  have hst:=h.stack
  obtain ⟨op,a,n,text⟩:=i
  simp only at a1 a7 a2 a9 a12
  by_cases e5:op=5
  · subst e5
    have he:Cd.ents c f ⟨5,a,n,text⟩=[12]:=by simp [Cd.ents]
    rw [he] at h2 hl ⊢
    rw [List.length_singleton] at h2 hl ⊢
    rw [Cd.drop1 (by omega)] at h2 ⊢
    simp [Cd.putT] at h2 ⊢
    have:=Cd.un_in (Cd.top_in hst (by omega)) h2
    omega
  · by_cases e6:op=6
    · subst e6
      have he:Cd.ents c f ⟨6,a,n,text⟩=[12,12]:=by simp [Cd.ents]
      rw [he] at h2 hl ⊢
      have e:([12,12]:List Int).length=2:=rfl
      rw [e] at h2 hl ⊢
      rw [Cd.drop2 (by omega)] at h2 ⊢
      simp [Cd.putT] at h2 ⊢
      have:=Cd.bin_in (Cd.below_in hst (by omega)) h2
      omega
    · generalize (k.drop (k.length - (Cd.ents c f ⟨op,a,n,text⟩).length))=tk at h2 ⊢
      revert h2
      unfold Cd.putT
      simp only [e5,e6,if_false]
      repeat' (first | split)
      · rename_i e;intro _;rcases e with e | e
        · have:=a1 e;omega
        · have:=a7 e;omega
      · intro _
        by_cases hj:a.toNat < s.length
        · rw [List.getD_eq_getElem?_getD,List.getElem?_eq_getElem hj]
          exact hs _ (List.getElem_mem hj)
        · rw [List.getD_eq_getElem?_getD,List.getElem?_eq_none (by omega)];simp
      · intro _;have:=Cd.makes_in a;omega
      · intro _;exact (hc.get _).1
      · intro _;simp
theorem Cd.leaves_fine {c:List Cd.Fn} {f:Cd.Fn} {i:Cd.Ins} {at':Nat} {s k:List Int} (hc:Cd.Fns c) (hat:at' < f.ins.length) (h:Cd.Reach c f i s k) (hf:Cd.fine (.known s k)):Cd.fine (Cd.leaves c f i at' s k):=by
  obtain ⟨hs,hk,h6⟩:=hf
  rw [← Cd.left_eq hat h]
  unfold Cd.leftP
  split
  · trivial
  · rename_i q1
    split
    · trivial
    · split
      · trivial
      · split
        · trivial
        · rename_i q
          simp only [not_or] at q
          have q2:(Cd.putT c i s (k.drop (k.length - (Cd.ents c f i).length))).2=true:=by simpa using q.1
          have hp:=Cd.put_in hc h hs q1 q2
          refine ⟨fun t ht => ?_,fun t ht => ?_,Nat.le_of_not_lt q.2⟩
          · split at ht
            · simp only [List.mem_append] at ht
              rcases ht with (ht | ht) | ht
              · exact hs t (List.mem_of_mem_take ht)
              · have:=hk t (List.mem_of_mem_drop ht);omega
              · exact hs t (List.mem_of_mem_drop ht)
            · exact hs t ht
          · unfold Cd.onto at ht
            split at ht
            · exact hk t (List.mem_of_mem_take ht)
            · rename_i qp
              simp only [List.mem_append,List.mem_singleton] at ht
              rcases ht with ht | ht
              · exact hk t (List.mem_of_mem_take ht)
              · rw [ht];omega
theorem Cd.agree_in {s s':List Int} (h:∀ t ∈ s,0≤t∧t≤10):∀ t ∈ Cd.agree s s',0≤t∧t≤10:=by
  intro t ht
  unfold Cd.agree at ht
  obtain ⟨j,hj,rfl⟩:=List.getElem_of_mem ht
  rw [List.getElem_zipWith]
  split
  · exact h _ (List.getElem_mem _)
  · omega
theorem Cd.join_fine : ∀ {a b:Cd.Sh},Cd.fine a→Cd.fine b→Cd.fine (Cd.join a b)
  | .none,.none,_,_=>trivial
  | .none,.known _ _,_,h=>h
  | .none,.clash,_,_=>trivial
  | .known _ _,.none,h,_=>h
  | .known _ _,.clash,_,_=>trivial
  | .clash,.none,_,_=>trivial
  | .clash,.known _ _,_,_=>trivial
  | .clash,.clash,_,_=>trivial
  | .known s k,.known s' k',h,_=>by
    rw [Cd.join]
    by_cases e:k=k'
    · rw [if_pos e];exact ⟨Cd.agree_in h.1,h.2⟩
    · rw [if_neg e];trivial
end Go.Proofs.YtbkhedpabfanoaaGreatDoor
namespace Go.Proofs.YtbkhedpabfanoaaGreatDoor
open Go.RowKit

theorem Cd.retB {a b:Bool} (h:a=b):Ending.returned (.bool a) = .returned (.bool b):=by rw [h]
theorem Cd.retI {a b:Int} (h:a=b):Ending.returned (.int .i64 a) = .returned (.int .i64 b):=by rw [h]
theorem Cd.isTy_any (b:Bool) (t:Int) (HB:Hid (Cd.inR t 1 10=b)) (w:World) :
    Calls Tryz.prog 88 #[.int .i64 t] w fun e w'=>e = .returned (.bool b)∧w=w':=by
  rw [← HB.out]
  by_cases h1:1≤t
  all_goals
    go_enter Tryz.func88,Tryz.ntmps88
    go_wp2
    all_goals go_ret
    all_goals exact ⟨Cd.retB (by first | (simp [Cd.inR,h1];done) | (simp [Cd.inR];omega)),rfl⟩
theorem Cd.isIntTy_any (b:Bool) (t:Int) (HB:Hid (Cd.isInt t=b)) (w:World) :
    Calls Tryz.prog 104 #[.int .i64 t] w fun e w'=>e = .returned (.bool b)∧w=w':=by
  rw [← HB.out]
  by_cases h1:3≤t
  all_goals
    go_enter Tryz.func104,Tryz.ntmps104
    go_wp2
    all_goals go_ret
    all_goals exact ⟨Cd.retB (by first | (simp [Cd.isInt,h1];done) | (simp [Cd.isInt];omega)),rfl⟩
theorem Cd.fits_any (b:Bool) (k h:Int) (HB:Hid (Cd.fitE k h=b)) (w:World) :
    Calls Tryz.prog 112 #[.int .i64 k,.int .i64 h] w fun e w'=>e = .returned (.bool b)∧w=w':=by
  by_cases h11:k=11
  · subst h11
    have HF:Hid (Cd.isInt h=b):=by rw [Hid,← HB.out,Cd.fitE,if_pos rfl]
    go_enter Tryz.func112,Tryz.ntmps112
    go_wp2_with (first | (go_at_call 104;refine (Cd.isIntTy_any _ _ HF _).mono ?_;rintro e w' ⟨rfl,rfl⟩))
    go_ret
    exact ⟨rfl,rfl⟩
  · by_cases h12:k=12
    · subst h12
      have HF:Hid (Cd.inR h 1 10=b):=by rw [Hid,← HB.out,Cd.fitE,if_neg (by decide),if_pos rfl]
      go_enter Tryz.func112,Tryz.ntmps112
      go_wp2_with (first | (go_at_call 88;refine (Cd.isTy_any _ _ HF _).mono ?_;rintro e w' ⟨rfl,rfl⟩))
      go_ret
      exact ⟨rfl,rfl⟩
    · have h1:(k == 11)=false:=by simp [h11]
      have h2:(k == 12)=false:=by simp [h12]
      have HF:Hid ((h == k)=b):=by rw [Hid,← HB.out,Cd.fitE,if_neg h11,if_neg h12];rfl
      clear h11 h12
      go_enter Tryz.func112,Tryz.ntmps112
      go_wp2
      go_ret
      exact ⟨by rw [← HF.out];rfl,rfl⟩
theorem Cd.typeUn_any (op t:Int) (h1:1≤op) (h3:op≤3) (w:World) :
    Calls Tryz.prog 125 #[.int .i64 op,.int .i64 t] w fun e w'=>e = .returned (.int .i64 (Cd.un op t))∧w=w':=by
  obtain ⟨b,HB⟩:∃ b,Hid (Cd.isInt t=b):=⟨_,(rfl:Cd.isInt t=_)⟩
  have hc:op=1∨op=2∨op=3:=by omega
  clear h1 h3
  cases b
  all_goals
    rcases hc with rfl | rfl | rfl
    all_goals
      go_enter Tryz.func125,Tryz.ntmps125
      go_wp2_with (go_at_call 104;refine (Cd.isIntTy_any _ _ HB _).mono ?_;rintro e w' ⟨rfl,rfl⟩)
      all_goals go_ret
      all_goals exact ⟨Cd.retI (by have:=HB.out;simp_all [Cd.un]),rfl⟩
set_option maxHeartbeats 2000000 in
theorem Cd.typeBin_any (op a b:Int) (h3:3≤op) (h18:op≤18) (ha:1≤a∧a≤10) (w:World) :
    Calls Tryz.prog 126 #[.int .i64 op,.int .i64 a,.int .i64 b] w fun e w'=>e = .returned (.int .i64 (Cd.bin op a b))∧w=w':=by
  by_cases hab:a=b
  · subst hab
    obtain ⟨r,HR⟩:∃ r,Hid (Cd.bin op a a=r):=⟨_,(rfl:Cd.bin op a a=_)⟩
    rw [HR.out]
    have h1:(a != a)=false:=by simp
    obtain ⟨x,HB⟩:∃ b,Hid (Cd.isInt a=b):=⟨_,(rfl:Cd.isInt a=_)⟩
    have hc:op=3∨op=4∨op=5∨op=6∨op=7∨op=8∨op=9∨op=10∨op=11∨op=12∨op=13∨op=14∨op=15∨op=16∨op=17∨op=18:=by omega
    have HA:Hid (1≤a∧a≤10):=ha
    have hz:(a != 0)=true:=by simp;omega
    clear h3 h18 ha
    cases x with
    | true =>
      have h2:(a == 2)=false:=by have:=HB.out;simp [Cd.isInt] at this;simp;omega
      have HN:Hid (a≠1∧a≠0):=by have:=HB.out;simp [Cd.isInt] at this;exact ⟨by omega,by omega⟩
      rcases hc with rfl | rfl | rfl | rfl | rfl | rfl | rfl | rfl | rfl | rfl | rfl | rfl | rfl | rfl | rfl | rfl
      all_goals
        go_enter Tryz.func126,Tryz.ntmps126
        go_wp2_with (go_at_call 104;refine (Cd.isIntTy_any _ _ HB _).mono ?_;rintro e w' ⟨rfl,rfl⟩)
        all_goals go_ret
        all_goals exact ⟨Cd.retI (by rw [← HR.out];simp [Cd.bin,HN.out,HB.out]),rfl⟩
    | false =>
      by_cases h2:a=2
      · subst h2
        rcases hc with rfl | rfl | rfl | rfl | rfl | rfl | rfl | rfl | rfl | rfl | rfl | rfl | rfl | rfl | rfl | rfl
        all_goals
          go_enter Tryz.func126,Tryz.ntmps126
          go_wp2_with (go_at_call 104;refine (Cd.isIntTy_any _ _ HB _).mono ?_;rintro e w' ⟨rfl,rfl⟩)
          all_goals go_ret
          all_goals exact ⟨Cd.retI (by rw [← HR.out];simp [Cd.bin,Cd.isInt]),rfl⟩
      · have e1:a=1:=by have h:=HB.out;have h':=HA.out;simp [Cd.isInt] at h;omega
        subst e1
        rcases hc with rfl | rfl | rfl | rfl | rfl | rfl | rfl | rfl | rfl | rfl | rfl | rfl | rfl | rfl | rfl | rfl
        all_goals
          go_enter Tryz.func126,Tryz.ntmps126
          go_wp2_with (go_at_call 104;refine (Cd.isIntTy_any _ _ HB _).mono ?_;rintro e w' ⟨rfl,rfl⟩)
          all_goals go_ret
          all_goals exact ⟨Cd.retI (by rw [← HR.out];simp [Cd.bin,Cd.isInt]),rfl⟩
  · have hne:(a != b)=true:=by simp [hab]
    have HR:Hid (0=Cd.bin op a b):=by rw [Hid,Cd.bin,if_pos (.inl hab)]
    go_enter Tryz.func126,Tryz.ntmps126
    go_wp2
    go_ret
    exact ⟨Cd.retI HR.out,rfl⟩
def Cd.IdxIs (l:List Int) (v k:Int):Prop:=(k = -1∧v ∉ l)∨∃ j:Nat,∃ h:j < l.length,k=(j:Int)∧l[j]=v∧∀ i (hi:i < l.length),i < j→l[i]≠v
set_option maxRecDepth 100000 in
set_option maxHeartbeats 1000000 in
theorem Cd.index_any (l:List Int) (v:Int) (a:Option Addr) (cap:Nat) (hl:l.length≤1048576) (B:Nat) (w:World) (hL:Cd.IntsAt B w (.slice a l.length cap) l) :
    Calls Tryz.prog 124 #[.slice a l.length cap,.int .i64 v] w fun e w'=>(∃ k:Int,e = .returned (.int .i64 k)∧Cd.IdxIs l v k)∧w=w':=by
  have HL:Hid (Cd.IntsAt B w (.slice a l.length cap) l):=hL
  clear hL
  go_enter Tryz.func124,Tryz.ntmps124
  go_wp2_with fail
  go_loopw [8] (fun t wr => ∃ i:Nat,i≤l.length∧t = .int .i64 (i:Int)∧w=wr∧∀ j (hj:j < l.length),j < i→l[j]≠v) (fun t _=>l.length - (intOf t).toNat)
  case atStart=>exact ⟨0,by omega,rfl,rfl,fun j hj h=>by omega⟩
  case round =>
    obtain ⟨i,hi,rfl,rfl,hno⟩:=hrel
    have HNO:Hid (∀ j (hj:j < l.length),j < i→l[j]≠v):=hno
    clear hno
    by_cases hlt:i < l.length
    · have hltI:(i:Int) < (l.length:Int):=by omega
      obtain ⟨g,o,rfl,d0⟩:∃ g o,a=some ⟨g,o,none⟩∧w.cell? ⟨g,o+i,none⟩=some (.int .i64 l[i]):=by
        obtain ⟨a',cp,e,hc⟩:=HL.out
        injection e with e1
        subst e1
        obtain ⟨g,o,h1,_,h2⟩:=hc i hlt
        exact ⟨g,o,h1,h2⟩
      obtain ⟨x,HX⟩:∃ x,Hid (l[i]=x):=⟨_,(rfl:l[i]=_)⟩
      rw [HX.out] at d0
      by_cases hv:v=x
      · subst hv
        have HR:Hid (Cd.IdxIs l v (i:Int)):=.inr ⟨i,hlt,rfl,HX.out,HNO.out⟩
        go_wp2_with fail
        go_ret
        exact ⟨⟨_,rfl,HR.out⟩,rfl⟩
      · have hvb:(v == x)=false:=by simp [hv]
        have HNX:Hid (∀ j (hj:j < l.length),j < i+1→l[j]≠v):=fun j hj h=>by
          by_cases e:j=i
          · subst e;rw [HX.out];exact fun e=>hv e.symm
          · exact HNO.out j hj (by omega)
        go_wp2_with fail
        go_roundw
        case rel=>exact ⟨i+1,by omega,by go_num,by first | rfl | trivial,HNX.out⟩
        case measure=>simp [intOf];omega
    · have hltI:¬ (i:Int) < (l.length:Int):=by omega
      have HR:Hid (Cd.IdxIs l v (-1)):=.inl ⟨rfl,fun hm=>by
        obtain ⟨j,hj,e⟩:=List.getElem_of_mem hm
        exact HNO.out j hj (by omega) e⟩
      go_wp2_with fail
      go_ret
      exact ⟨⟨_,rfl,HR.out⟩,rfl⟩
set_option maxHeartbeats 1000000 in
theorem Cd.contains_any (l:List Int) (v:Int) (a:Option Addr) (cap:Nat) (hl:l.length≤1048576) (B:Nat) (w:World) (hL:Cd.IntsAt B w (.slice a l.length cap) l) (b:Bool) (HB:Hid (decide (v ∈ l)=b)) :
    Calls Tryz.prog 111 #[.slice a l.length cap,.int .i64 v] w fun e w'=>e = .returned (.bool b)∧w=w':=by
  have HI:Hid (Calls Tryz.prog 124 #[.slice a l.length cap,.int .i64 v] w fun e w'=>(∃ k:Int,e = .returned (.int .i64 k)∧decide (0≤k)=b)∧w=w'):=(Cd.index_any l v a cap hl B w hL).mono (by
    rintro e w' ⟨⟨k,rfl,hk⟩,rfl⟩
    refine ⟨⟨k,rfl, ?_⟩,rfl⟩
    rw [← HB.out]
    rcases hk with ⟨rfl,hn⟩ | ⟨j,hj,rfl,he,_⟩
    · simp [hn]
    · have:v ∈ l:=by rw [← he];exact List.getElem_mem hj
      simp [this])
  clear hL HB
  go_enter Tryz.func111,Tryz.ntmps111
  go_wp2_with (go_at_call 124;refine HI.out.mono ?_;rintro e w' ⟨⟨k,rfl,hk⟩,rfl⟩)
  all_goals go_ret
  all_goals exact ⟨Cd.retB (by first | exact hk | (simp_all;done) | (rw [← hk];simp;omega)),rfl⟩
end Go.Proofs.YtbkhedpabfanoaaGreatDoor
namespace Go.Proofs.YtbkhedpabfanoaaGreatDoor
open Go.RowKit

def Cd.kidE (op:Nat):List Int:=(Cd.want (op:Int)).map (fun t=>if t=0 then 11 else t)
structure Cd.WordTab (w:World):Prop where
  lt1:9 < w.heap.size
  lt2:10 < w.heap.size
  kid:∀ m:Nat,1≤m→m≤12→∀ j,j < 3→w.cell? ⟨9,m * 4+j,none⟩=some (.int .i64 ((Cd.kidE m).getD j 0))
  gives:∀ m:Nat,1≤m→m≤12→w.cell? ⟨9,m * 4+3,none⟩=some (.int .i64 (Cd.makes (m:Int)))
  kids:∀ m:Nat,1≤m→m≤12→w.cell? ⟨10,m * 2+1,none⟩=some (.int .i64 ((Cd.kidE m).length:Int))
theorem Cd.WordTab.below {w w':World} (h:Cd.WordTab w) (hb:Below w.heap.size w w'):Cd.WordTab w' :=
  ⟨Nat.lt_of_lt_of_le h.lt1 hb.size,Nat.lt_of_lt_of_le h.lt2 hb.size,fun m h1 h2 j hj=>(hb.cell (p:=⟨_,_,none⟩) h.lt1).trans (h.kid m h1 h2 j hj),fun m h1 h2=>(hb.cell (p:=⟨_,_,none⟩) h.lt1).trans (h.gives m h1 h2),fun m h1 h2=>(hb.cell (p:=⟨_,_,none⟩) h.lt2).trans (h.kids m h1 h2)⟩
theorem Cd.kidE_len (m:Nat):(Cd.kidE m).length≤3:=by
  unfold Cd.kidE Cd.want
  rw [List.length_map]
  repeat' (first | split)
  all_goals simp
structure Cd.TrAt (g:Nat) (w:World) (cv:Value) (f:Cd.Fn) (pv iv lv wv:Value):Prop where
  blk:w.heap[g]? = some (.cells #[cv,.string f.name,pv,.int .i64 f.result,.int .i64 f.slots,iv,lv,wv] 165 (0,0))
theorem Cd.TrAt.lt {g:Nat} {w:World} {cv:Value} {f:Cd.Fn} {pv iv lv wv:Value} (h:Cd.TrAt g w cv f pv iv lv wv):g < w.heap.size:=(Array.getElem?_eq_some_iff.1 h.blk).1
theorem Cd.TrAt.below {g:Nat} {w w':World} {cv:Value} {f:Cd.Fn} {pv iv lv wv:Value} (h:Cd.TrAt g w cv f pv iv lv wv) (hb:Below w.heap.size w w'):Cd.TrAt g w' cv f pv iv lv wv:=⟨(hb.block g h.lt).trans h.blk⟩
theorem Cd.TrAt.cells {g:Nat} {w:World} {cv:Value} {f:Cd.Fn} {pv iv lv wv:Value} (h:Cd.TrAt g w cv f pv iv lv wv):w.cell? ⟨g,0,none⟩=some cv∧w.cell? ⟨g,1,none⟩=some (.string f.name)∧w.cell? ⟨g,2,none⟩=some pv∧w.cell? ⟨g,3,none⟩=some (.int .i64 f.result)∧w.cell? ⟨g,4,none⟩=some (.int .i64 f.slots)∧w.cell? ⟨g,5,none⟩=some iv∧w.cell? ⟨g,6,none⟩=some lv∧w.cell? ⟨g,7,none⟩=some wv:=by
  refine ⟨?_, ?_, ?_, ?_, ?_, ?_, ?_, ?_⟩ <;> (rw [Lib.cell_of_heap h.blk];rfl)
theorem Cd.ints_new (w:World) (xs:List Int) (t:TypeId) (k cap:Nat) (hk:k≤xs.length) (W:World) (hW:W.heap[w.heap.size]? = some (.cells (Cd.ints xs).toArray t (0,0))) (hs:w.heap.size < W.heap.size):Cd.IntsAt W.heap.size W (.slice (some ⟨w.heap.size,0,none⟩) k cap) (xs.take k):=by
  refine ⟨some ⟨w.heap.size,0,none⟩,cap,by rw [List.length_take,Nat.min_eq_left hk],fun i hi=>⟨w.heap.size,0,rfl,hs, ?_⟩⟩
  rw [List.length_take] at hi
  rw [Lib.cell_of_heap hW]
  simp [Cd.ints,List.getElem_take]
end Go.Proofs.YtbkhedpabfanoaaGreatDoor
