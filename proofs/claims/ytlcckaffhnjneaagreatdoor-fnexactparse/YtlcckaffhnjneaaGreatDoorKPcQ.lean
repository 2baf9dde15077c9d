import Derived.Test.YtlcckaffhnjneaaGreatDoorKTk
import Derived.Test.YtlcckaffhnjneaaGreatDoorKPcP
import Derived.Deep.RegionLaw
import Derived.Deep.RegionHeld3
set_option maxRecDepth 100000
set_option maxHeartbeats 2000000
namespace Go.Proofs.YtlcckaffhnjneaaGreatDoor
open Go.RowKit
variable {ts:List (Mill.Piece × Nat)} {g:Nat} {a:Option Addr} {c E i j:Nat} {w W W2:World}
def Pa.AnsB (ts:List (Mill.Piece × Nat)) (g:Nat) (a:Option Addr) (c E:Nat) (r:Except Nat (List Mill.Tr × Nat)) (w:World) (e:Ending) (w':World):Prop:=match r with
 | .ok p => ∃ va vc,e = .returned (.agg #[.slice va p.1.length vc])∧Pa.Kr w.heap.size w' va vc p.1∧Pa.Pt ts g a c E p.2 w w'
 | .error k=>e=Pa.pan ts E k∧Pa.Fr g w w'
def Pa.BlkIs (ts:List (Mill.Piece × Nat)) (g:Nat) (a:Option Addr) (c E n:Nat):Prop := ∀ (i:Nat) (w:World) (r:Except Nat (List Mill.Tr × Nat)),Pa.iblock ts n i=some r→Pa.Tb g w→Pa.P ts g a c E i w →
 Calls Tryz.prog 71 #[.pointer (some ⟨g,0,none⟩)] w (Pa.AnsB ts g a c E r w)
def Pa.StIs (ts:List (Mill.Piece × Nat)) (g:Nat) (a:Option Addr) (c E n:Nat):Prop := ∀ (i:Nat) (w:World) (r:Except Nat (Mill.Tr × Nat)),Pa.istmt ts n i=some r→Pa.Tb g w→Pa.P ts g a c E i w →
 Calls Tryz.prog 98 #[.pointer (some ⟨g,0,none⟩)] w (Pa.Ans ts g a c E r w)
structure Pa.Bw (ts:List (Mill.Piece × Nat)) (g:Nat) (a:Option Addr) (c E:Nat) (w:World) (b:Nat) (p:Nat) (W:World) (va:Option Addr) (vc:Nat) (l:List Mill.Tr):Prop where
 T:Pa.Pt ts g a c E p w W
 res:W.heap[w.heap.size]? = some (.cells #[.slice none 0 0] 77)
 var:W.heap[b]? = some (.cells #[.slice va l.length vc] 77)
 K:Pa.Kr (b+1) W va vc l
 gw:g < w.heap.size
 bw:w.heap.size < b
variable {b p p2:Nat} {va:Option Addr} {vc:Nat} {l:List Mill.Tr}
theorem Pa.Bw.to (h:Pa.Bw ts g a c E w b p W va vc l) (hT:Pa.Pt ts g a c E p2 W W2):Pa.Bw ts g a c E w b p2 W2 va vc l:=by
 have hg:=h.gw
 have hb:=h.bw
 have h1:=(Array.getElem?_eq_some_iff.1 h.res).1
 have h2:=(Array.getElem?_eq_some_iff.1 h.var).1
 exact ⟨h.T.to hT,(hT.2.keep _ h1 (by omega)).trans h.res,(hT.2.keep _ h2 (by omega)).trans h.var,h.K.fr hT.2 (by omega),hg,hb⟩
theorem Pa.Bw.cells (h:Pa.Bw ts g a c E w b p W va vc l):W.cell? ⟨w.heap.size,0,none⟩=some (.slice none 0 0)∧W.cell? ⟨b,0,none⟩=some (.slice va l.length vc)∧(∀ k,W.frozen? ⟨w.heap.size,k,none⟩=false)∧∀ k,W.frozen? ⟨b,k,none⟩=false:=by
 have h1:=h.res
 have h2:=h.var
 refine ⟨?_, ?_,fun k => ?_,fun k => ?_⟩
 ·rw [Lib.cell_of_heap h1];rfl
 ·rw [Lib.cell_of_heap h2];rfl
 ·simp [World.frozen?,h1]
 ·simp [World.frozen?,h2]
theorem Pa.Bw.store {a':Option Addr} {c':Nat} {l':List Mill.Tr} (h:Pa.Bw ts g a c E w b p W va vc l) (hK:Pa.Kr (b+1) W2 a' c' l') (hFg:∀ V,Pa.Fr g V W→V.heap.size≤b+1→Pa.Fr g V W2) (hPg:∀ ts a c E i,Pa.P ts g a c E i W→Pa.P ts g a c E i W2) (hk:W.heap.size≤W2.heap.size∧∀ k,k < b+1→k < W.heap.size→W2.heap[k]? = W.heap[k]?):Pa.Bw ts g a c E w b p (W2.setCell ⟨b,0,none⟩ (.slice a' l'.length c')) a' c' l':=by
 have hg:=h.gw
 have hb:=h.bw
 have h1:=(Array.getElem?_eq_some_iff.1 h.res).1
 have h2:=(Array.getElem?_eq_some_iff.1 h.var).1
 have hF2:=hFg w h.T.2 (by omega)
 have hP2:=hPg _ _ _ _ _ h.T.1
 refine ⟨⟨⟨?_,hP2.tks.keep fun j hj=>Below.heap_setCell _ _ _ _ (by simp only;omega),hP2.le,hP2.len,hP2.cap⟩,⟨hF2.os,hF2.tape,hF2.output,by simpa [World.setCell] using hF2.size,fun j hj hjg=>(Below.heap_setCell _ _ _ _ (by simp only;omega)).trans (hF2.keep j hj hjg)⟩⟩, ?_, ?_,hK.set (by omega) _,hg,hb⟩
 ·rw [Below.heap_setCell _ _ _ _ (by simp only;omega)];exact hP2.blk
 ·rw [Below.heap_setCell _ _ _ _ (by simp only;omega),hk.2 _ (by omega) h1];exact h.res
 ·have:=(hk.2 _ (by omega) h2).trans h.var
  simp [World.setCell,Array.getElem?_modify,this]
theorem Pa.Bw.ret {v0:Value} (h:Pa.Bw ts g a c E w b p W va vc l):Pa.Kr w.heap.size (W.setCell ⟨w.heap.size,0,none⟩ v0) va vc l∧Pa.Pt ts g a c E p w (W.setCell ⟨w.heap.size,0,none⟩ v0):=by
 have hg:=h.gw
 have hb:=h.bw
 have hP:=h.T.1
 have hF:=h.T.2
 have hk:∀ k,k≠w.heap.size→(W.setCell ⟨w.heap.size,0,none⟩ v0).heap[k]? = W.heap[k]?:=fun k hk=>Below.heap_setCell _ _ _ _ hk
 refine ⟨(h.K.set (by omega) _).mono (by omega),⟨(hk _ (by omega)).trans hP.blk,hP.tks.keep fun j hj=>hk _ (by omega),hP.le,hP.len,hP.cap⟩,⟨hF.os,hF.tape,hF.output,by simpa [World.setCell] using hF.size,fun j hj hjg=>(hk _ (by omega)).trans (hF.keep j hj hjg)⟩⟩
theorem Pa.Bw.drew (h:Pa.Bw ts g a c E w b p W va vc l):Pa.Bw ts g a c E w b p W.drew va vc l:=h.to ⟨h.T.1.below (Pa.below_drew (Below.refl _ _)),Pa.Fr.of_below (Pa.below_drew (Below.refl _ _))⟩
theorem Pa.Bw.start {V:World} (hR:V.heap[w.heap.size]? = some (.cells #[.slice none 0 0] 77)) (hT:Pa.Pt ts g a c E p w V) (hg:g < w.heap.size):Pa.Bw ts g a c E w V.heap.size p (V.alloc (.cells #[.slice none 0 0] 77)) none 0 []:=by
 have hb:Below V.heap.size V (V.alloc (.cells #[.slice none 0 0] 77)):=(Below.refl _ _).alloc (Nat.le_refl _) _
 have h1:=(Array.getElem?_eq_some_iff.1 hR).1
 exact ⟨hT.to ⟨hT.1.below hb,Pa.Fr.of_below hb⟩,(hb.block _ h1).trans hR,heap_alloc_new _ _,Pa.Kr.nil _ _,hg,h1⟩
theorem Pa.res_blk (hP:Pa.P ts g a c E p w):∃ V,w.alloc (.cells #[.slice none 0 0] 77)=V∧V.heap[w.heap.size]? = some (.cells #[.slice none 0 0] 77)∧Pa.Pt ts g a c E p w V∧w.heap.size < V.heap.size :=
 ⟨_,rfl,heap_alloc_new _ _,⟨hP.below ((Below.refl _ _).alloc (Nat.le_refl _) _),Pa.Fr.of_below ((Below.refl _ _).alloc (Nat.le_refl _) _)⟩,by simp⟩
theorem Pa.blk_next (n:Nat) (ih:∀ m,m≤n→Pa.StIs ts g a c E m):Pa.BlkIs ts g a c E (n+1):=by
 intro i w r hr hB hP
 have hgw:=hP.lt
 obtain ⟨V0,hV0,hres,hT,hVs⟩:=Pa.res_blk hP
 rw [Pa.iblock] at hr
 cases h1:Pa.st ts 5 [123] i with
 | false =>
  rw [Pa.nd_no h1,Pa.bd_err,Option.some.injEq] at hr
  subst hr
  go_enter Tryz.func71,Tryz.ntmps71
  go_wp2_with (go_at_call 67;(try rw [hV0]);refine (Pa.needsM_no [123] h1 hT.1).mono ?_;rintro e V ⟨rfl,hT'⟩;have hF:=(hT.to hT').2;unfold Pa.pan)
  exact ⟨rfl,rfl,hF⟩
 | true =>
  rw [Pa.nd_yes h1,Pa.bd_ok] at hr
  simp only at hr
  have HR:Hid (Pa.iblockL ts n [] (i+1)=some r):=hr
  clear hr
  go_enter Tryz.func71,Tryz.ntmps71
  go_wp2_with (go_at_call 67;(try rw [hV0]);refine (Pa.needsM_ok [123] h1 hT.1).mono ?_;rintro e V ⟨rfl,hT'⟩;replace hres:=(hT'.2.keep _ hVs (Nat.ne_of_gt hgw)).trans hres;replace hT:=hT.to hT';clear hT';have hC:=Pa.Bw.start hres hT hgw)
  go_loopw [6] (fun _ wr => ∃ (m:Nat) (us:List Mill.Tr) (p:Nat) (oa:Option Addr) (oc:Nat),m≤n∧Pa.Bw ts g a c E w V.heap.size p wr oa oc us∧Pa.iblockL ts m us p=some r∧us.length≤p) (fun _ wr=>Pa.leftP g ts.length wr)
  case atStart=>exact ⟨n,[],_,_,_,Nat.le_refl _,hC,HR.out,by simp⟩
  case round =>
   clear hC hT hres hVs hV0
   generalize V.heap.size=b at *
   obtain ⟨m,us,p,oa,oc,hm,hC,hL,hup⟩:=hrel
   obtain ⟨m,rfl⟩:∃ m',m=m'+1:=by
    cases m with
    | zero=>simp [Pa.iblockL] at hL
    | succ m=>exact ⟨m,rfl⟩
   rw [Pa.iblockL] at hL
   cases h6:Pa.st ts 5 [125] p with
   | true =>
    rw [h6,if_pos rfl,Option.some.injEq] at hL
    subst hL
    go_wp2_with (go_at_call 68;refine (Pa.takesM_any [125] hC.T.1).mono ?_;rintro e V ⟨rfl,hT'⟩;rw [h6] at hT' ⊢;rw [if_pos rfl] at hT';replace hC:=hC.to hT';clear hT';obtain ⟨z0,z1,f0,f1⟩:=hC.cells)
    have hE:=hC.ret (v0:=.slice oa us.length oc)
    have y0:=World.cell?_setCell_same _ ⟨w.heap.size,0,none⟩ (.slice oa us.length oc) z0
    refine bodyPost_ret (v:=.agg #[.slice oa us.length oc]) (by simp [results,Tryz.results71,go_sem,y0]) rfl ?_
    exact ⟨oa,oc,rfl,hE.1,hE.2⟩
   | false =>
    rw [h6,if_neg (by simp)] at hL
    go_wp2_with (go_at_call 68;refine (Pa.takesM_any [125] hC.T.1).mono ?_;rintro e V ⟨rfl,hT'⟩;rw [h6] at hT' ⊢;rw [if_neg (by simp)] at hT';have hlp:Pa.leftP g ts.length wr=ts.length+1 - p:=hC.T.1.left;replace hC:=hC.to hT';clear hT';obtain ⟨z0,z3,f0,f1⟩:=hC.cells)
    have hb2:=hC.bw
    have hple:=hC.T.1.le
    have hplen:=hC.T.1.len
    have hub:us.length+1≤1000000:=by omega
    have hcl:b+1≤V.heap.size:=(Array.getElem?_eq_some_iff.1 hC.var).1
    have hCC:b+1≤V.drew.heap.size:=hcl
    have hkC:∀ k,(Value.slice oa us.length oc).ownBlock=some k→k < V.drew.heap.size:=fun k hk=>(hC.K.blk hk).1
    have hgd:g < V.drew.heap.size:=Nat.lt_of_lt_of_le (by omega) hcl
    have HBd:Pa.Tb g V.drew:=hB.fr hC.drew.T.2
    have HPd:Pa.P ts g a c E p V.drew:=hC.drew.T.1
    cases h4:Pa.istmt ts m p with
    | none=>rw [h4,Pa.bd_none] at hL;simp at hL
    | some q2 =>
     rw [h4] at hL
     have HE:Hid (∀ W,Pa.Tb g W→Pa.P ts g a c E p W→Calls Tryz.prog 98 #[.pointer (some ⟨g,0,none⟩)] W (Pa.Ans ts g a c E q2 W)):=fun W hb hp=>ih m (by omega) p W q2 h4 hb hp
     cases q2 with
     | error k4 =>
      rw [Pa.bd_err,Option.some.injEq] at hL
      subst hL
      refine wp_region_held_drew (S:=fun V=>V.cell? ⟨b,0,none⟩=some (.slice oa us.length oc)) (by kernel_rfl) (z3) (fun hHeld => ?_)
      refine Tk 0 (.pointer (some ⟨b,0,none⟩)) ?_
      try simp [Act.put]
      refine Tk 1 (.slice oa us.length oc) ?_
      try simp [Act.put]
      refine Tk 2 (.pointer (some ⟨g,0,none⟩)) ?_
      try simp [Act.put]
      refine wpAnyH_ready (rs:=[3]) (by kernel_rfl) (by simp) ?_
      refine AllReadyH.cons rfl (fun KK hK => ?_) AllReadyH.nil
      go_simp
      (go_at_call 98;refine (HE.out _ HBd HPd).mono ?_;rintro e V4 ⟨rfl,hF'⟩;have hF:=hC.drew.T.2.trans hF';unfold Pa.pan;exact And.intro rfl (And.intro rfl hF))
     | ok x4 =>
      rw [Pa.bd_ok] at hL
      have HL:Hid (Pa.iblockL ts m (us++[x4.1]) x4.2=some r):=hL
      clear hL
      have hlt:=(Pa.ls_all ts m).stmt _ _ h4
      go_region_law (first
       | (go_simp;go_at_call 98;refine (HE.out _ HBd HPd).mono ?_;rintro e V4 ⟨ty,y,rfl,hR,hT'⟩;have hC4:=hC.drew.to hT';have z1:=hC4.cells.2.1;have z2:(V4.alloc (.cells #[.iface ty y] 70)).cell? ⟨b,0,none⟩=some (.slice oa us.length oc):=(by rw [World.cell?_alloc_lt _ _ ⟨b,0,none⟩ (World.block_lt_of_cell? _ _ z1)];exact z1);(try simp only))
       | (refine Pa.step_push (g:=g) rfl (.tmp 10) (.tmp 13) rfl hC4.K hR hCC hkC (Nat.le_trans hCC hT'.2.size) hub (by omega) (Nat.lt_of_lt_of_le hgd hT'.2.size) rfl rfl ?_;intro a' c' w5 hK5 hFg hPg hsz5;have u1:w5.cell? ⟨b,0,none⟩=some (.slice oa us.length oc):=(by rw [World.cell?_of_block (hsz5.2 b (by omega) (World.block_lt_of_cell? _ _ z1))];exact z1);have u2:w5.frozen? ⟨b,0,none⟩=false:=(by rw [World.frozen?_of_block (hsz5.2 b (by omega) (World.block_lt_of_cell? _ _ z1))];exact hC4.cells.2.2.2 0)))
      all_goals
       have e5:(us++[x4.1]).length=us.length+1:=by simp
       have hC5:=hC4.store hK5 hFg hPg hsz5
       rw [e5] at hC5
       go_wp2_with fail
       go_roundw
       case rel=>exact ⟨m,us++[x4.1],x4.2,a',c',by omega,hC5,HL.out,by simp;omega⟩
       case measure=>rw [hlp,hC5.T.1.left];have:=hC5.T.1.le;omega
end Go.Proofs.YtlcckaffhnjneaaGreatDoor
