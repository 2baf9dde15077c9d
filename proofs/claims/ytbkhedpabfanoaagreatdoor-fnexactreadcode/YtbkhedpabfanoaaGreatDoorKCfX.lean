import Derived.Test.YtbkhedpabfanoaaGreatDoorKCfL
import Derived.Test.YtbkhedpabfanoaaGreatDoorKCdA
import Derived.Test.YtbkhedpabfanoaaGreatDoorKCfT
import Derived.Test.YtbkhedpabfanoaaGreatDoorKCdW
namespace Go.Proofs.YtbkhedpabfanoaaGreatDoor
open Go.RowKit

theorem Cd.le_ne {a b:Cd.Sh} (h:Cd.le a b) (ha:a ≠ .none):b ≠ .none:=by
  intro e
  subst e
  cases a with
  | none=>exact ha rfl
  | known s k=>exact h
  | clash=>exact h
theorem Cd.down_nodup {W:List Int} (h:Cd.down W):W.Nodup:=by
  rw [List.nodup_iff_pairwise_ne,List.pairwise_iff_getElem]
  intro i j hi hj hij e
  have:=h i j hi hj hij
  omega
theorem Cd.down_len {W W':List Int} (h:Cd.down W) (h':Cd.down W') (hm:∀ v,v ∈ W' ↔ v ∈ W):W'.length=W.length :=
  ((List.perm_ext_iff_of_nodup (Cd.down_nodup h') (Cd.down_nodup h)).2 hm).length_eq
structure Cd.Wk (Z:Cd.Sys) (X:List Cd.Sh) (W:List Int):Prop where
  low:Cd.Low Z X
  first:0 < Z.n→Cd.le Z.first (Cd.at' X 0)
  work:∀ v ∈ W,∃ u:Nat,v=(u:Int)∧u < Z.n∧Cd.at' X u ≠ .none
  rest:∀ u,u < Z.n→(u:Int) ∉ W→Cd.at' X u ≠ .none→∀ v ∈ Z.goes u,v < Z.n→Cd.le (Z.left u (Cd.at' X u)) (Cd.at' X v)
structure Cd.Wm (Z:Cd.Sys) (X:List Cd.Sh) (W:List Int) (i:Nat) (b:Cd.Sh) (gl:List Nat) (k:Nat):Prop where
  low:Cd.Low Z X
  first:0 < Z.n→Cd.le Z.first (Cd.at' X 0)
  work:∀ v ∈ W,∃ u:Nat,v=(u:Int)∧u < Z.n∧Cd.at' X u ≠ .none
  rest:∀ u,u < Z.n→u≠i→(u:Int) ∉ W→Cd.at' X u ≠ .none→∀ v ∈ Z.goes u,v < Z.n→Cd.le (Z.left u (Cd.at' X u)) (Cd.at' X v)
  here:(i:Int) ∉ W→b=Z.left i (Cd.at' X i)∧∀ j (hj:j < gl.length),j < k→gl[j] < Z.n→Cd.le b (Cd.at' X gl[j])
  blow:∀ v ∈ gl,v < Z.n→∀ Y,Cd.Fix Z Y→Cd.le b (Cd.at' Y v)
  blen:Cd.len Z.m b
def Cd.ms (Z:Cd.Sys) (X:List Cd.Sh) (W:List Int):Nat:=2 * (Z.n * (Z.m+2) - Cd.sum Z.m X)+W.length
theorem Cd.Wk.fix {Z:Cd.Sys} {X:List Cd.Sh} (h:Cd.Wk Z X []):Cd.Low Z X∧Cd.Fix Z X :=
  ⟨h.low,h.low.size,fun u hu hn=>h.rest u hu (by simp) hn,h.first⟩
theorem Cd.at_none (n u:Nat):Cd.at' (List.replicate n .none) u = .none:=by
  unfold Cd.at'
  rw [List.getD_eq_getElem?_getD,List.getElem?_replicate]
  by_cases e:u < n <;> simp [e]
theorem Cd.Wk.start (Z:Cd.Sys) (hf:Z.first ≠ .none) (hn:0 < Z.n) {W:List Int} (hW:∀ v,v ∈ W ↔ v=0):Cd.Wk Z ((List.replicate Z.n .none).set 0 (Cd.join .none Z.first)) W:=by
  have e0:=Cd.at_none Z.n 0
  have hl:=(Cd.Low.start Z).come 0 hn Z.first Z.flen (fun Y hY=>hY.first hn)
  rw [e0] at hl
  have hlen:0 < (List.replicate Z.n Cd.Sh.none).length:=by simpa using hn
  have hj:Cd.le Z.first (Cd.join .none Z.first):=Cd.join_right (m:=Z.m) trivial Z.flen
  refine ⟨hl,fun _ => ?_,fun v hv=>⟨0,by simpa using (hW v).1 hv,hn, ?_⟩,fun u hu hnw hun => ?_⟩
  · rw [Cd.at_set _ _ _ _ hlen,if_pos rfl];exact hj
  · rw [Cd.at_set _ _ _ _ hlen,if_pos rfl];exact Cd.le_ne hj hf
  · by_cases e:u=0
    · subst e;exact absurd ((hW _).2 (by simp)) hnw
    · rw [Cd.at_set _ _ _ _ hlen,if_neg e,Cd.at_none] at hun;exact (hun rfl).elim
theorem Cd.Wk.pop {Z:Cd.Sys} {X:List Cd.Sh} {W:List Int} {i:Nat} (h:Cd.Wk Z X (W++[(i:Int)])):i < Z.n∧Cd.at' X i ≠ .none∧Cd.Wm Z X W i (Z.left i (Cd.at' X i)) (Z.goes i) 0:=by
  obtain ⟨u,e,hu,hn⟩:=h.work (i:Int) (by simp)
  have e2:u=i:=by omega
  subst e2
  refine ⟨hu,hn,h.low,h.first,fun v hv=>h.work v (List.mem_append_left _ hv),fun x hx hxi hxw=>h.rest x hx (fun hm => ?_),fun _=>⟨rfl,fun j hj hk=>by omega⟩,fun v hv hvn Y hY=>h.low.leaves u hu hn v hvn hv Y hY,Z.keep u _ (h.low.lens u)⟩
  rcases List.mem_append.1 hm with hm | hm
  · exact hxw hm
  · rw [List.mem_singleton] at hm;exact hxi (by omega)
theorem Cd.Wm.done {Z:Cd.Sys} {X:List Cd.Sh} {W:List Int} {i:Nat} {b:Cd.Sh} {k:Nat} (h:Cd.Wm Z X W i b (Z.goes i) k) (hk:(Z.goes i).length≤k):Cd.Wk Z X W:=by
  refine ⟨h.low,h.first,h.work,fun u hu hw hn v hv hvn => ?_⟩
  by_cases e:u=i
  · subst e
    obtain ⟨hb,ha⟩:=h.here hw
    obtain ⟨j,hj,rfl⟩:=List.getElem_of_mem hv
    rw [← hb]
    exact ha j hj (by omega) hvn
  · exact h.rest u hu e hw hn v hv hvn
theorem Cd.Wm.skip {Z:Cd.Sys} {X:List Cd.Sh} {W:List Int} {i:Nat} {b:Cd.Sh} {gl:List Nat} {k:Nat} (h:Cd.Wm Z X W i b gl k) (hk:k < gl.length) (hv:¬ gl[k] < Z.n):Cd.Wm Z X W i b gl (k+1) :=
  ⟨h.low,h.first,h.work,h.rest,fun hw=>⟨(h.here hw).1,fun j hj hjk hjn=>by
    by_cases e:j=k
    · subst e;exact (hv hjn).elim
    · exact (h.here hw).2 j hj (by omega) hjn⟩,h.blow,h.blen⟩
theorem Cd.set_at (X:List Cd.Sh) (v:Nat) (hv:v < X.length):X.set v (Cd.at' X v)=X:=by
  unfold Cd.at'
  rw [List.getD_eq_getElem?_getD,List.getElem?_eq_getElem hv]
  exact List.set_getElem_self hv
theorem Cd.Wm.step {Z:Cd.Sys} {X:List Cd.Sh} {W W':List Int} {i:Nat} {b:Cd.Sh} {gl:List Nat} {k:Nat} (h:Cd.Wm Z X W i b gl k) (hk:k < gl.length) (hv:gl[k] < Z.n) (hbn:b ≠ .none) (hd:Cd.down W) (hd':Cd.down W') (hl:W'.length≤W.length+1)
    (hW:∀ v,v ∈ W' ↔ v ∈ W∨(v=(gl[k]:Int)∧Cd.join (Cd.at' X gl[k]) b≠Cd.at' X gl[k])) :
    Cd.Wm Z (X.set gl[k] (Cd.join (Cd.at' X gl[k]) b)) W' i b gl (k+1)∧Cd.ms Z (X.set gl[k] (Cd.join (Cd.at' X gl[k]) b)) W'≤Cd.ms Z X W:=by
  have hvl:gl[k] < X.length:=by rw [h.low.size];exact hv
  have hle:=Cd.join_left (h.low.lens gl[k]) h.blen
  have hri:=Cd.join_right (h.low.lens gl[k]) h.blen
  by_cases he:Cd.join (Cd.at' X gl[k]) b=Cd.at' X gl[k]
  · have hm:∀ v,v ∈ W' ↔ v ∈ W:=fun v=>by rw [hW v];simp [he]
    rw [he,Cd.set_at X _ hvl]
    rw [he] at hri
    refine ⟨⟨h.low,h.first,fun v hv=>h.work v ((hm v).1 hv),fun u hu hui hw=>h.rest u hu hui (fun x=>hw ((hm _).2 x)),fun hw => ?_,h.blow,h.blen⟩,by unfold Cd.ms;rw [Cd.down_len hd hd' hm];exact Nat.le_refl _⟩
    obtain ⟨h1,h2⟩:=h.here (fun x=>hw ((hm _).2 x))
    refine ⟨h1,fun j hj hjk hjn => ?_⟩
    by_cases e:j=k
    · subst e;exact hri
    · exact h2 j hj (by omega) hjn
  · have hlow:=h.low.come gl[k] hv b h.blen (h.blow gl[k] (List.getElem_mem hk) hv)
    have hht:=(Cd.height_mono (h.low.lens gl[k]) (Cd.join_len (h.low.lens gl[k]) h.blen) hle).2 (fun e=>he e.symm)
    have hsum:=Cd.sum_set Z.m X gl[k] (Cd.join (Cd.at' X gl[k]) b) hvl
    have htop:=Cd.sum_le Z.m _ hlow.lens
    rw [hlow.size] at htop
    have hup:∀ u,Cd.le (Cd.at' X u) (Cd.at' (X.set gl[k] (Cd.join (Cd.at' X gl[k]) b)) u):=fun u=>by
      rw [Cd.at_set _ _ _ _ hvl]
      by_cases e:u=gl[k]
      · rw [if_pos e,e];exact hle
      · rw [if_neg e];exact Cd.le.refl _
    have hin:(gl[k]:Int) ∈ W':=(hW _).2 (.inr ⟨rfl,he⟩)
    have hne:∀ u:Nat,(u:Int) ∉ W'→u≠gl[k]:=fun u hu e=>hu (by rw [e];exact hin)
    have hsame:∀ u:Nat,(u:Int) ∉ W'→Cd.at' (X.set gl[k] (Cd.join (Cd.at' X gl[k]) b)) u=Cd.at' X u:=fun u hu=>by rw [Cd.at_set _ _ _ _ hvl,if_neg (hne u hu)]
    have hout:∀ v,v ∉ W'→v ∉ W:=fun v hv hx=>hv ((hW v).2 (.inl hx))
    refine ⟨⟨hlow,fun hz=>(h.first hz).trans (hup 0),fun v hv => ?_,fun u hu hui hw hn v hv hvn => ?_,fun hw => ?_,h.blow,h.blen⟩,by unfold Cd.ms;omega⟩
    · rcases (hW v).1 hv with hv | ⟨rfl,_⟩
      · obtain ⟨u,e,hu,hn⟩:=h.work v hv
        exact ⟨u,e,hu,Cd.le_ne (hup u) hn⟩
      · exact ⟨gl[k],rfl,by assumption,by rw [Cd.at_set _ _ _ _ hvl,if_pos rfl];exact Cd.le_ne hri hbn⟩
    · rw [hsame u hw] at hn ⊢
      exact (h.rest u hu hui (hout _ hw) hn v hv hvn).trans (hup v)
    · obtain ⟨h1,h2⟩:=h.here (hout _ hw)
      refine ⟨by rw [hsame i hw];exact h1,fun j hj hjk hjn => ?_⟩
      by_cases e:j=k
      · subst e;rw [Cd.at_set _ _ _ _ hvl,if_pos rfl];exact hri
      · exact (h2 j hj (by omega) hjn).trans (hup _)
end Go.Proofs.YtbkhedpabfanoaaGreatDoor
namespace Go.Proofs.YtbkhedpabfanoaaGreatDoor
open Go.RowKit

theorem Tryz.infoLay : (Tryz.prog.info? 168).map (fun i=>(i.zero,i.size,i.bytes))=some (some (.agg #[.int .i64 0,.string ⟨#[]⟩,.string ⟨#[]⟩]),3,40):=by kernel_rfl
theorem Cd.lay_info : ∃ i,Tryz.prog.info? 168=some i∧i.zero=some (.agg #[.int .i64 0,.string ⟨#[]⟩,.string ⟨#[]⟩])∧i.size=3∧i.bytes=40:=by
  have h:=Tryz.infoLay
  cases hi:Tryz.prog.info? 168 with
  | none=>rw [hi] at h;simp at h
  | some i=>rw [hi] at h;simp at h;exact ⟨i,rfl,h.1,h.2.1,h.2.2⟩
theorem Tryz.infoU8 : (Tryz.prog.info? 5).map (fun i=>(i.zero,i.size,i.bytes))=some (some (.int .u8 0),1,1):=by kernel_rfl
theorem Cd.u8_info : ∃ i,Tryz.prog.info? 5=some i∧i.zero=some (.int .u8 0)∧i.size=1∧i.bytes=1:=by
  have h:=Tryz.infoU8
  cases hi:Tryz.prog.info? 5 with
  | none=>rw [hi] at h;simp at h
  | some i=>rw [hi] at h;simp at h;exact ⟨i,rfl,h.1,h.2.1,h.2.2⟩
theorem Cd.madeL_at (n u j:Nat) (hu:u < n) (hj:j < 3):(madeCells (Value.agg #[.int .i64 0,.string ⟨#[]⟩,.string ⟨#[]⟩]).cells (n * 3))[u * 3+j]? = (#[Value.int .i64 0,.string ⟨#[]⟩,.string ⟨#[]⟩]:Array Value)[j]?:=by
  have h1:u * 3+j < n * 3:=by omega
  have h2:(u * 3+j) % 3=j:=by omega
  have hc:(Value.agg #[.int .i64 0,.string ⟨#[]⟩,.string ⟨#[]⟩]).cells = #[Value.int .i64 0,.string ⟨#[]⟩,.string ⟨#[]⟩]:=rfl
  rw [hc]
  unfold madeCells
  simp only [Array.getElem?_map,List.size_toArray,List.length_cons,List.length_nil]
  rw [Array.getElem?_eq_getElem (by simpa using h1)]
  simp only [Array.getElem_range,Option.map_some,h2]
  have hj3:j=0∨j=1∨j=2:=by omega
  rcases hj3 with rfl | rfl | rfl <;> rfl
theorem Cd.LaysAt.made {W:World} {g n:Nat} (h:W.heap[g]? = some (.cells (madeCells (Value.agg #[.int .i64 0,.string ⟨#[]⟩,.string ⟨#[]⟩]).cells (n * 3)) 168 (0,0))):Cd.LaysAt g W (List.replicate n .none):=by
  refine ⟨⟨_,h,by rw [List.length_replicate,size_madeCells],fun u hu => ?_⟩⟩
  rw [List.length_replicate] at hu
  rw [List.getElem_replicate]
  refine ⟨?_, ?_, ?_⟩
  · have:=Cd.madeL_at n u 0 hu (by omega);exact this
  · rw [Cd.madeL_at n u 1 hu (by omega)];rfl
  · rw [Cd.madeL_at n u 2 hu (by omega)];rfl
theorem Cd.madeB_at (n j:Nat) (hj:j < n):(madeCells (Value.int .u8 0).cells (n * 1))[j]? = some (.int .u8 0):=by
  have hc:(Value.int .u8 0).cells = #[Value.int .u8 0]:=rfl
  rw [hc]
  unfold madeCells
  simp only [Array.getElem?_map,List.size_toArray,List.length_cons,List.length_nil]
  rw [Array.getElem?_eq_getElem (by simpa using hj)]
  simp only [Array.getElem_range,Option.map_some,Nat.zero_add,Nat.mod_one]
  rfl
theorem Cd.row_cut {w:World} {B:Nat} {wa:Option Addr} {wc:Nat} {W:List Int} {z:Int} (h:w.ownsRow B 3 1 (.slice wa (W++[z]).length wc) (W++[z]).length (Cd.ints (W++[z]))):w.ownsRow B 3 1 (.slice wa W.length wc) W.length (Cd.ints W)∧(∃ k,wa=some ⟨k,0,none⟩)∧W.length+1≤wc:=by
  obtain ⟨h1,h2⟩:=h
  rcases h2 with ⟨h2,h3⟩ | ⟨g,cap,cur,h2,hB,hg,hc,hm,hs,ht⟩
  · simp at h3
  · injection h2 with e1 e2 e3
    subst e1 e3
    rw [List.length_append,List.length_singleton] at hc ht
    refine ⟨⟨by simp [Cd.ints],.inr ⟨g,wc,cur,rfl,hB,hg,by omega,hm,hs, ?_⟩⟩,⟨g,rfl⟩,hc⟩
    have h4:(cur.toList.take ((W.length+1) * 1)).take (W.length * 1)=Cd.ints W:=by
      rw [ht,Cd.ints_app,Nat.mul_one,show W.length=(Cd.ints W).length by simp [Cd.ints],List.take_left]
    rw [List.take_take,Nat.min_eq_left (by omega)] at h4
    exact h4
theorem Cd.down_ge {W:List Int} (h:Cd.down W) (h0:0 < W.length):∀ j (hj:j < W.length),W[j]+(j:Int)≤W[0]
  | 0,_=>by simp
  | j+1,hj=>by
    have h1:=Cd.down_ge h h0 j (by omega)
    have h2:=h j (j+1) (by omega) hj (by omega)
    omega
theorem Cd.down_le {W:List Int} {n:Nat} (h:Cd.down W) (hb:∀ v ∈ W,∃ u:Nat,v=(u:Int)∧u < n):W.length≤n:=by
  by_cases h0:W.length=0
  · omega
  · have h1:=Cd.down_ge h (by omega) (W.length - 1) (by omega)
    obtain ⟨u,e,hu⟩:=hb _ (List.getElem_mem (l:=W) (n:=0) (by omega))
    obtain ⟨v,e2,hv⟩:=hb _ (List.getElem_mem (l:=W) (n:=W.length - 1) (by omega))
    omega
theorem Cd.down_cut {W:List Int} {z:Int} (h:Cd.down (W++[z])):Cd.down W:=fun i j h1 h2 hij=>by
  have:=h i j (by simp;omega) (by simp;omega) hij
  rwa [List.getElem_append_left h1,List.getElem_append_left h2] at this
theorem Cd.behind_ne (c:List Cd.Fn) (f:Cd.Fn) (u:Nat) (a:Cd.Sh):Cd.behind c f u a ≠ .none:=by
  cases a with
  | none=>simp [Cd.behind]
  | clash=>simp [Cd.behind]
  | known s k =>
    show Cd.leaves _ _ _ _ _ _≠_
    unfold Cd.leaves
    repeat' split
    all_goals simp
theorem Cd.behind_fine {c:List Cd.Fn} {f:Cd.Fn} (hR:Cd.Right c f) {u:Nat} (hu:u < f.ins.length) {a:Cd.Sh} (hf:Cd.fine a) (hl:Cd.len f.slots.toNat a):Cd.fine (Cd.behind c f u a):=by
  cases a with
  | none=>trivial
  | clash=>trivial
  | known s k =>
    have hre:=Cd.reach_of (s:=s) (k:=k) hR.fns hR.res (hR.ok u hu) hl hf.2.1
    have h:=Cd.leaves_fine (at':=u) hR.fns hu hre hf
    show Cd.fine (Cd.leaves c f (f.ins.getD u Cd.noIns) u s k)
    rw [List.getD_eq_getElem?_getD,List.getElem?_eq_getElem hu]
    exact h
theorem Cd.fine_small {a:Cd.Sh} (h:Cd.fine a):Cd.smallS a:=by
  cases a with
  | none=>trivial
  | clash=>trivial
  | known s k=>exact ⟨h.1,fun t ht=>⟨by have:=(h.2.1 t ht).1;omega,(h.2.1 t ht).2⟩⟩
theorem Cd.fine_set {X:List Cd.Sh} {v:Nat} {a:Cd.Sh} (hX:∀ u,Cd.fine (Cd.at' X u)) (ha:Cd.fine a) (hv:v < X.length) (u:Nat):Cd.fine (Cd.at' (X.set v a) u):=by
  rw [Cd.at_set _ _ _ _ hv]
  by_cases e:u=v
  · rw [if_pos e];exact ha
  · rw [if_neg e];exact hX u
theorem Cd.LaysAt.uniq {g:Nat} {W:World} {X Y:List Cd.Sh} (h:Cd.LaysAt g W X) (k:Cd.LaysAt g W Y) (hX:∀ u,Cd.fine (Cd.at' X u)) (hY:∀ u,Cd.fine (Cd.at' Y u)):X=Y:=by
  obtain ⟨cs,h1,h2,h3⟩:=h.blk
  obtain ⟨ds,k1,k2,k3⟩:=k.blk
  rw [h1] at k1
  injection k1 with k1
  injection k1 with k1
  subst k1
  have hl:X.length=Y.length:=by omega
  refine List.ext_getElem hl fun u h4 h5 => ?_
  obtain ⟨a0,a1,a2⟩:=h3 u h4
  obtain ⟨b0,b1,b2⟩:=k3 u h5
  rw [a0] at b0
  rw [a1] at b1
  rw [a2] at b2
  have e0:Cd.st X[u]=Cd.st Y[u]:=by simpa using b0
  have e1:Cd.sb X[u]=Cd.sb Y[u]:=by simpa using b1
  have e2:Cd.kb X[u]=Cd.kb Y[u]:=by simpa using b2
  have hx:=hX u
  have hy:=hY u
  rw [Cd.at_get h4] at hx
  rw [Cd.at_get h5] at hy
  have h6:=Cd.lay_same (Cd.fine_small hx) (Cd.fine_small hy)
  rw [e0,e1,e2] at h6
  simpa using h6
noncomputable def Cd.msW (Z:Cd.Sys) (g gl:Nat) (w:World):Nat:=Classical.epsilon (fun k => ∃ (X:List Cd.Sh) (W:List Int) (wa:Option Addr) (wc:Nat),Cd.LaysAt gl w X∧(∀ u,Cd.fine (Cd.at' X u))∧w.cell? ⟨g,7,none⟩=some (.slice wa W.length wc)∧k=Cd.ms Z X W)
theorem Cd.msW_is {Z:Cd.Sys} {g gl:Nat} {w:World} {X:List Cd.Sh} {W:List Int} {wa:Option Addr} {wc:Nat} (h1:Cd.LaysAt gl w X) (h2:∀ u,Cd.fine (Cd.at' X u)) (h3:w.cell? ⟨g,7,none⟩=some (.slice wa W.length wc)):Cd.msW Z g gl w=Cd.ms Z X W:=by
  obtain ⟨Y,V,va,vc,k1,k2,k3,k4⟩:=Classical.epsilon_spec (p:=fun k => ∃ (X:List Cd.Sh) (W:List Int) (wa:Option Addr) (wc:Nat),Cd.LaysAt gl w X∧(∀ u,Cd.fine (Cd.at' X u))∧w.cell? ⟨g,7,none⟩=some (.slice wa W.length wc)∧k=Cd.ms Z X W) ⟨_,X,W,wa,wc,h1,h2,h3,rfl⟩
  unfold Cd.msW
  rw [k4,← h1.uniq k1 h2 k2]
  rw [h3] at k3
  have e:W.length=V.length:=by simp at k3;exact k3.2.1
  unfold Cd.ms
  rw [e]
theorem Cd.goes_le {c:List Cd.Fn} {f:Cd.Fn} (hR:Cd.Right c f) {u:Nat} (hu:u < f.ins.length):∀ v ∈ Cd.goes f.ins[u] u,v≤f.ins.length:=by
  intro v hv
  have hA:=Cd.insA (hR.ok u hu)
  have h10:=hA.2.2.2.2.2.2.2.1
  unfold Cd.goes at hv
  by_cases h1:f.ins[u].op=12∨f.ins[u].op=13
  · rw [if_pos h1] at hv;simp at hv
  · rw [if_neg h1] at hv
    by_cases h2:f.ins[u].op=10
    · rw [if_pos h2] at hv
      have:=h10 (.inl h2)
      simp at hv
      omega
    · rw [if_neg h2] at hv
      by_cases h3:f.ins[u].op=11
      · rw [if_pos h3] at hv
        have:=h10 (.inr h3)
        simp at hv
        omega
      · rw [if_neg h3] at hv
        simp at hv
        omega
theorem Cd.firstS_at {f:Cd.Fn} (j:Nat):(Cd.firstS f).getD j 0=if j < f.params.length then f.params.getD j 0 else 0:=by
  unfold Cd.firstS
  rw [List.getD_eq_getElem?_getD,List.getElem?_append]
  by_cases e:j < f.params.length
  · rw [if_pos e,if_pos e,List.getD_eq_getElem?_getD]
  · rw [if_neg e,if_neg e,List.getElem?_replicate]
    split <;> rfl
theorem Cd.firstS_small {f:Cd.Fn} (h:∀ t ∈ f.params,1≤t∧t≤10):Cd.small (Cd.firstS f):=by
  intro t ht
  unfold Cd.firstS at ht
  rcases List.mem_append.1 ht with h1 | h1
  · have:=h t h1;omega
  · have:=List.eq_of_mem_replicate h1;omega
set_option maxRecDepth 100000 in
set_option maxHeartbeats 2000000 in
theorem Cd.goesOn_new (i:Cd.Ins) (at':Nat) (h1:1≤i.op) (h16:i.op≤16) (hat:at'≤1048576) (ha:i.op=10∨i.op=11→0≤i.a) (w:World) (hT:Cd.InsTab w) :
    Calls Tryz.prog 93 #[Cd.insV i,.int .i64 (at':Int)] w fun e w' => ∃ v,e = .returned v∧Cd.IntsAt w'.heap.size w' v (Cd.nats (Cd.goes i at'))∧Below w.heap.size w w'∧∀ k,v.ownBlock=some k→w.heap.size≤k:=by
  obtain ⟨op,a,n,text⟩:=i
  simp only at h1 h16 ha
  obtain ⟨m,rfl⟩:∃ m:Nat,op=(m:Int):=⟨op.toNat,by omega⟩
  have hm1:1≤m:=by omega
  have hm16:m≤16:=by omega
  unfold Cd.insV
  have hw1:wrap64 ((at':Int)+1)=(at':Int)+1:=IntWalk.wrap64_in _ (by omega)
  obtain ⟨Y1,hY1⟩:∃ Y,w.alloc (.cells #[.int .i64 (m:Int),.int .i64 a,.int .i64 n,.string text] 54)=Y:=⟨_,rfl⟩
  have hb1:Below w.heap.size w Y1:=by rw [← hY1];exact Cd.b1 w _
  have hs1:Y1.heap.size=w.heap.size+1:=by rw [← hY1];exact World.size_alloc _ _
  have p1_0:Y1.heap[w.heap.size]? = some (.cells #[.int .i64 (m:Int),.int .i64 a,.int .i64 n,.string text] 54):=by rw [← hY1];exact Cd.new_at w _
  have c0_0:Y1.cell? ⟨w.heap.size,0,none⟩=some (.int .i64 (m:Int)):=by rw [Lib.cell_of_heap p1_0];rfl
  have c0_1:Y1.cell? ⟨w.heap.size,1,none⟩=some (.int .i64 a):=by rw [Lib.cell_of_heap p1_0];rfl
  have c0_2:Y1.cell? ⟨w.heap.size,2,none⟩=some (.int .i64 n):=by rw [Lib.cell_of_heap p1_0];rfl
  have c0_3:Y1.cell? ⟨w.heap.size,3,none⟩=some (.string text):=by rw [Lib.cell_of_heap p1_0];rfl
  clear p1_0
  have tg:Y1.cell? ⟨7,m * 5+4,none⟩=some (.int .i64 (Cd.rowOf m).2.2.2.2):=(hb1.cell (p:=⟨_,_,none⟩) hT.lt).trans (hT.goes m hm1 hm16)
  clear hT
  have hmI:(m:Int) < 17:=by omega
  by_cases h10:m=10
  · have HG:Hid (Cd.goes ⟨(m:Int),a,n,text⟩ at'=[a.toNat]):=by rw [Hid,h10];simp [Cd.goes]
    have e:(Cd.rowOf m).2.2.2.2=1:=by rw [h10];rfl
    rw [e] at tg
    obtain ⟨k,rfl⟩:∃ k:Nat,a=(k:Int):=⟨a.toNat,by have:=ha (.inl (by omega));omega⟩
    rw [HG.out]
    clear h10 ha e
    go_enter Tryz.func93,Tryz.ntmps93
    go_wp2_with fail
    go_ret
    exact ⟨.slice (some ⟨Y1.heap.size,0,none⟩) 1 1,by simp [hs1],Cd.IntsAt.newZ (Z:=Y1) (hs:=[(k:Int)]) _ _ rfl,Cd.Below.new hb1 _,fun k hk=>(by have e:Y1.heap.size=k:=(by simpa [Value.ownBlock] using hk);omega)⟩
  · by_cases h11:m=11
    · have HG:Hid (Cd.goes ⟨(m:Int),a,n,text⟩ at'=[a.toNat,at'+1]):=by rw [Hid,h11];simp [Cd.goes]
      have e:(Cd.rowOf m).2.2.2.2=2:=by rw [h11];rfl
      rw [e] at tg
      obtain ⟨k,rfl⟩:∃ k:Nat,a=(k:Int):=⟨a.toNat,by have:=ha (.inr (by omega));omega⟩
      rw [HG.out]
      clear h10 h11 ha e
      go_enter Tryz.func93,Tryz.ntmps93
      go_wp2_with fail
      go_ret
      exact ⟨.slice (some ⟨Y1.heap.size,0,none⟩) 2 2,by simp [hs1],Cd.IntsAt.newZ (Z:=Y1) (hs:=[(k:Int),(at':Int)+1]) _ _ rfl,Cd.Below.new hb1 _,fun k hk=>(by have e:Y1.heap.size=k:=(by simpa [Value.ownBlock] using hk);omega)⟩
    · by_cases h12:m=12∨m=13
      · have HG:Hid (Cd.goes ⟨(m:Int),a,n,text⟩ at'=[]):=by
          rw [Hid];rcases h12 with h | h <;> (rw [h];simp [Cd.goes])
        have e:(Cd.rowOf m).2.2.2.2=3:=by rcases h12 with h | h <;> (rw [h];rfl)
        rw [e] at tg
        rw [HG.out]
        clear h10 h11 h12 ha e
        go_enter Tryz.func93,Tryz.ntmps93
        go_wp2_with fail
        go_ret
        exact ⟨.slice none 0 0,rfl,⟨none,0,rfl,fun i hi=>by simp [Cd.nats] at hi⟩,hb1,fun k hk=>by simp [Value.ownBlock] at hk⟩
      · have HG:Hid (Cd.goes ⟨(m:Int),a,n,text⟩ at'=[at'+1]):=by
          rw [Hid];unfold Cd.goes
          rw [if_neg (by simp only;omega),if_neg (by simp only;omega),if_neg (by simp only;omega)]
        have e:(Cd.rowOf m).2.2.2.2=0:=by
          have h:m=1∨m=2∨m=3∨m=4∨m=5∨m=6∨m=7∨m=8∨m=9∨m=14∨m=15∨m=16:=by omega
          rcases h with h | h | h | h | h | h | h | h | h | h | h | h <;> (rw [h];rfl)
        rw [e] at tg
        rw [HG.out]
        clear h10 h11 h12 ha e
        go_enter Tryz.func93,Tryz.ntmps93
        go_wp2_with fail
        go_ret
        exact ⟨.slice (some ⟨Y1.heap.size,0,none⟩) 1 1,by simp [hs1],Cd.IntsAt.newZ (Z:=Y1) (hs:=[(at':Int)+1]) _ _ rfl,Cd.Below.new hb1 _,fun k hk=>(by have e:Y1.heap.size=k:=(by simpa [Value.ownBlock] using hk);omega)⟩
theorem Cd.TrSt.pop {B g gl:Nat} {c:List Cd.Fn} {f:Cd.Fn} {ca ia:Option Addr} {cc ic lc:Nat} {pv:Value} {X:List Cd.Sh} {W:List Int} {z:Int} {wa:Option Addr} {wc:Nat} {w:World} (h:Cd.TrSt B g gl c f ca ia cc ic lc pv X (W++[z]) wa wc w):Cd.TrSt B g gl c f ca ia cc ic lc pv X W wa wc (w.setCell ⟨g,7,none⟩ (.slice wa W.length wc)):=by
  obtain ⟨h1,⟨k,rfl⟩,h3⟩:=Cd.row_cut h.row
  have hset:∀ j,j≠g→(w.setCell ⟨g,7,none⟩ (.slice (some ⟨k,0,none⟩) W.length wc)).heap[j]? = w.heap[j]?:=fun j hj=>by simp [World.setCell,Array.getElem?_modify,Ne.symm hj]
  have htr:(w.setCell ⟨g,7,none⟩ (.slice (some ⟨k,0,none⟩) W.length wc)).heap[g]? = some (.cells #[.slice ca c.length cc,.string f.name,pv,.int .i64 f.result,.int .i64 f.slots,.slice ia f.ins.length ic,.slice (some ⟨gl,0,none⟩) f.ins.length lc,.slice (some ⟨k,0,none⟩) W.length wc] 165 (0,0)):=by simp [World.setCell,Array.getElem?_modify,h.tr.blk]
  have hkg:k≠g:=fun e=>h.rg (by rw [e];rfl)
  have hla:Cd.LaysAt gl (w.setCell ⟨g,7,none⟩ (.slice (some ⟨k,0,none⟩) W.length wc)) X:=by
    obtain ⟨cs,q1,q2⟩:=h.lays.blk
    exact ⟨cs,(hset gl (Ne.symm h.ne)).trans q1,q2⟩
  refine ⟨h.gB,h.glB,h.ne,by rw [World.size_setCell];exact h.size,⟨htr⟩,hla,h.len,Cd.row_keep h1 (fun j hj=>hset j (fun e=>hkg ?_)),fun e=>h.rg ?_,fun e=>h.rl ?_⟩
  · have:k=j:=by simpa [Value.ownBlock] using hj
    omega
  · simpa [Value.ownBlock] using e
  · simpa [Value.ownBlock] using e
theorem Cd.TrSt.last {B g gl:Nat} {c:List Cd.Fn} {f:Cd.Fn} {ca ia:Option Addr} {cc ic lc:Nat} {pv:Value} {X:List Cd.Sh} {W:List Int} {z:Int} {wa:Option Addr} {wc:Nat} {w:World} (h:Cd.TrSt B g gl c f ca ia cc ic lc pv X (W++[z]) wa wc w):∃ k,wa=some ⟨k,0,none⟩∧W.length+1≤wc∧w.cell? ⟨k,W.length,none⟩=some (.int .i64 z)∧w.cell? ⟨g,7,none⟩=some (.slice (some ⟨k,0,none⟩) (W.length+1) wc)∧w.frozen? ⟨g,7,none⟩=false:=by
  obtain ⟨-,⟨k,rfl⟩,h3⟩:=Cd.row_cut h.row
  have c7:=h.tr.cells.2.2.2.2.2.2.2
  rw [List.length_append,List.length_singleton] at c7
  refine ⟨k,rfl,h3, ?_,c7,by simp [World.frozen?,h.tr.blk]⟩
  rcases h.row.2 with ⟨h4,_⟩ | ⟨g',cap,cur,h4,_,hg,hc,hm,hs,ht⟩
  · simp at h4
  · injection h4 with e1
    injection e1 with e1
    injection e1 with e1
    subst e1
    rw [Lib.cell_of_heap hg,← Array.getElem?_toList]
    have h5:(cur.toList.take ((W++[z]).length * 1))[W.length]? = some (.int .i64 z):=by
      rw [ht,Cd.ints_app,List.getElem?_append_right (by simp [Cd.ints])]
      simp [Cd.ints]
    rw [List.getElem?_take] at h5
    rwa [if_pos (by simp)] at h5
def Cd.Tw (B g gl:Nat) (c:List Cd.Fn) (f:Cd.Fn) (ca ia:Option Addr) (cc ic lc:Nat) (pv:Value) (V w:World):Prop :=
  ∃ (X:List Cd.Sh) (W:List Int) (wa:Option Addr) (wc:Nat),Cd.TrSt B g gl c f ca ia cc ic lc pv X W wa wc w∧Cd.Wk (Cd.sys c f) X W∧Cd.down W∧(∀ u,Cd.fine (Cd.at' X u))∧Below B V w
structure Cd.Tv (B g gl:Nat) (c:List Cd.Fn) (f:Cd.Fn) (ca ia:Option Addr) (cc ic lc:Nat) (pv:Value) (V:World) (i:Nat) (b:Cd.Sh) (G:List Nat) (v:Value) (bl:Nat) (M:Nat) (k:Nat) (X:List Cd.Sh) (W:List Int) (wa:Option Addr) (wc:Nat) (w:World):Prop where
  st:Cd.TrSt B g gl c f ca ia cc ic lc pv X W wa wc w
  wm:Cd.Wm (Cd.sys c f) X W i b G k
  dn:Cd.down W
  fine:∀ u,Cd.fine (Cd.at' X u)
  since:Below B V w
  ms:Cd.ms (Cd.sys c f) X W+1≤M
  ints:Cd.IntsAt w.heap.size w v (Cd.nats G)
  voff:∀ j,v.ownBlock=some j→j≠g∧j≠gl∧(Value.slice wa W.length wc).ownBlock≠some j
  left:w.heap[bl]? = some (.cells #[.int .i64 (Cd.st b),.string (Cd.sb b),.string (Cd.kb b)] 168 (0,0))
  loff:bl≠g∧bl≠gl∧(Value.slice wa W.length wc).ownBlock≠some bl
theorem Cd.Tv.skip {B g gl:Nat} {c:List Cd.Fn} {f:Cd.Fn} {ca ia:Option Addr} {cc ic lc:Nat} {pv:Value} {V:World} {i:Nat} {b:Cd.Sh} {G:List Nat} {v:Value} {bl M k:Nat} {X:List Cd.Sh} {W:List Int} {wa:Option Addr} {wc:Nat} {w:World} (h:Cd.Tv B g gl c f ca ia cc ic lc pv V i b G v bl M k X W wa wc w) (hk:k < G.length) (hto:¬ G[k] < f.ins.length) {w':World} (hb:Below w.heap.size w w'):Cd.Tv B g gl c f ca ia cc ic lc pv V i b G v bl M (k+1) X W wa wc w':=by
  have hlt:bl < w.heap.size:=(Array.getElem?_eq_some_iff.1 h.left).1
  exact ⟨h.st.below hb,h.wm.skip hk hto,h.dn,h.fine,h.since.trans (hb.mono h.st.size),h.ms,Cd.IntsAt.mono (h.ints.below hb) hb.size,h.voff,(hb.block bl hlt).trans h.left,h.loff⟩
theorem Cd.Tv.step {B g gl:Nat} {c:List Cd.Fn} {f:Cd.Fn} {ca ia:Option Addr} {cc ic lc:Nat} {pv:Value} {V:World} {i:Nat} {b:Cd.Sh} {G:List Nat} {v:Value} {bl M k:Nat} {X:List Cd.Sh} {W:List Int} {wa:Option Addr} {wc:Nat} {w:World} (h:Cd.Tv B g gl c f ca ia cc ic lc pv V i b G v bl M k X W wa wc w) (hk:k < G.length) (hto:G[k] < f.ins.length) (hbn:b ≠ .none) (hbf:Cd.fine b) {W':List Int} {wa':Option Addr} {wc':Nat} {w':World}
    (hS:Cd.TrSt B g gl c f ca ia cc ic lc pv (X.set G[k] (Cd.join (Cd.at' X G[k]) b)) W' wa' wc' w') (hB:Below B w w') (hd:Cd.down W') (hl:W'.length≤W.length+1) (hm:∀ z,z ∈ W' ↔ z ∈ W∨(z=(G[k]:Int)∧Cd.join (Cd.at' X G[k]) b≠Cd.at' X G[k])) (hfr:Cd.Fr g gl (Value.slice wa W.length wc).ownBlock (Value.slice wa' W'.length wc').ownBlock w w') :
    Cd.Tv B g gl c f ca ia cc ic lc pv V i b G v bl M (k+1) (X.set G[k] (Cd.join (Cd.at' X G[k]) b)) W' wa' wc' w':=by
  have hlt:bl < w.heap.size:=(Array.getElem?_eq_some_iff.1 h.left).1
  obtain ⟨h1,h2⟩:=h.wm.step hk hto hbn h.dn hd hl hm
  have hvl:∀ j,v.ownBlock=some j→j < w.heap.size:=fun j hj=>by
    obtain ⟨a,cap,rfl,hc⟩:=h.ints
    obtain ⟨g',o,ha,hg,-⟩:=hc k (by simpa [Cd.nats] using hk)
    subst ha
    have:g'=j:=by simpa [Value.ownBlock] using hj
    omega
  refine ⟨hS,h1,hd,Cd.fine_set h.fine (Cd.join_fine (h.fine _) hbf) (by rw [h.wm.low.size];exact hto),h.since.trans hB,by have:=h.ms;omega, ?_,fun j hj => ?_,(hfr.keep bl hlt h.loff.1 h.loff.2.1 h.loff.2.2).trans h.left,h.loff.1,h.loff.2.1,fun e=>h.loff.2.2 (hfr.own bl e hlt)⟩
  · exact h.ints.keep (fun j hj=>hfr.keep j (hvl j hj) (h.voff j hj).1 (h.voff j hj).2.1 (h.voff j hj).2.2) hB.size
  · exact ⟨(h.voff j hj).1,(h.voff j hj).2.1,fun e=>(h.voff j hj).2.2 (hfr.own j e (hvl j hj))⟩
end Go.Proofs.YtbkhedpabfanoaaGreatDoor
