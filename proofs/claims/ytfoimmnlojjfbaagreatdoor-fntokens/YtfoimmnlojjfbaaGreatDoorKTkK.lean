import Derived.Test.YtfoimmnlojjfbaaGreatDoorKTkF
import Derived.Deep.CutBlock
import Derived.Deep.DeepCutAuto
import Derived.Deep.RegionHeld3
set_option maxRecDepth 100000
set_option maxHeartbeats 4000000
namespace Go.Proofs.YtfoimmnlojjfbaaGreatDoor
open Go.RowKit
theorem Tk.k5 {k:Int} (h:0≤k∧k < 5):(k=4∧Tk.Mk)∨(k=0∧Tk.Mk)∨(k=1∧Tk.Mk)∨(k=2∧Tk.Mk)∨(k=3∧Tk.Mk):=by
 simp only [Tk.Mk,and_true];omega
theorem Tk.Rows.fw {A R n c:Nat} {w w':World} {a:Option Addr} (h:Tk.Rows A w a n c) (hf:Gn.Fw R w w'):Tk.Rows A w' a n c:=by
 obtain ⟨vs,h1,h2,h3⟩:=h
 exact ⟨vs,h1,hf.row h2 (by decide),fun v hv=>by obtain ⟨B,hB⟩:=h3 v hv;exact ⟨B,hB.fw hf⟩⟩
theorem Tk.edge_any {R P:Nat} {w w0:World} (hD:Gn.Dw R P w0 w) (hP:P≤800000000):Calls Tryz.prog 62 #[.pointer (some ⟨R,0,none⟩)] w (Tk.WPost R (P+4) 6000 w0 w):=by
  obtain ⟨V0,hV0⟩:∃ V,w.alloc (.cells #[.slice none 0 0] 73)=V:=⟨_,rfl⟩
  have hs0:V0.heap.size=w.heap.size+1:=by rw [← hV0];simp
  have HV0:Hid (w.alloc (.cells #[.slice none 0 0] 73)=V0):=hV0
  have hd0:Gn.Dw R P w0 V0:=by rw [← hV0];exact hD.below (Tk.up1 w _)
  have hR:R < w.heap.size:=hD.lt
  have hw0:w0.heap.size≤w.heap.size:=hD.2.size
  have t0:Tk.Mk:=trivial
  go_enter Tryz.func62,Tryz.ntmps62
  go_wp2_with (first
    | (go_at_call 8
       have _t:=t0
       clear t0
       refine (Gn.pickW 5 hd0 (by omega) (by decide) (by decide)).mono ?_
       rintro e w1 ⟨k,rfl,hk,hd1,hf1⟩
       rcases Tk.k5 hk with ⟨rfl,m4⟩ | ⟨rfl,m0⟩ | ⟨rfl,m1⟩ | ⟨rfl,m2⟩ | ⟨rfl,m3⟩)
    | (go_at_call 8
       have _t:=m0
       clear m0
       refine (Gn.pickW 3 hd1 (by omega) (by decide) (by decide)).mono ?_
       rintro e w4 ⟨x,rfl,hx,hd4,hf⟩
       have hf4:Gn.Fw R V0 w4:=hf1.trans hf
       clear hf
       have hw1:wrap64 (60+x)=60+x:=IntWalk.wrap64_in _ (by omega)
       have hw2:wrap64 (60+x - 1)=60+x - 1:=IntWalk.wrap64_in _ (by omega)
       have m0a:Tk.Mk:=trivial)
    | (go_at_call 78
       have _t:=m0a
       clear m0a
       refine (Tk.deep_any (60+x - 1) (by omega) w4).mono ?_
       rintro e w5 ⟨a5,n5,c5,rfl,hn5,hr5',hb5⟩
       have hr5:=hr5'.mono (K':=6000) (Nat.le_refl _) (by decide)
       have hd5:=(hd4.below hb5).mono (P':=P+4) (by omega)
       have hf5:Gn.Fw R (w.alloc (.cells #[.slice none 0 0] 73)) w5:=(by rw [HV0.out];exact hf4.trans (Gn.Fw.of_below hb5))
       have hA5:w.heap.size≤w4.heap.size:=Nat.le_trans (by omega) hf4.size
       obtain ⟨-,x0,x1⟩:=Tk.tree_cellW hf5
       have r0:Tk.Mk:=trivial)
    | (go_at_call 8
       have _t:=m1
       clear m1
       refine (Gn.pickW 3 hd1 (by omega) (by decide) (by decide)).mono ?_
       rintro e w4 ⟨x,rfl,hx,hd4,hf⟩
       have hf4:Gn.Fw R V0 w4:=hf1.trans hf
       clear hf
       have hw1:wrap64 (200+x)=200+x:=IntWalk.wrap64_in _ (by omega)
       have hw2:wrap64 (200+x - 1)=200+x - 1:=IntWalk.wrap64_in _ (by omega)
       have m1a:Tk.Mk:=trivial)
    | (go_at_call 79
       have _t:=m1a
       clear m1a
       refine (Tk.wide_any (200+x - 1) (by omega) w4).mono ?_
       rintro e w5 ⟨a5,n5,c5,rfl,hn5,hr5',hb5⟩
       have hr5:=hr5'.mono (K':=6000) (Nat.le_refl _) (by decide)
       have hd5:=(hd4.below hb5).mono (P':=P+4) (by omega)
       have hf5:Gn.Fw R (w.alloc (.cells #[.slice none 0 0] 73)) w5:=(by rw [HV0.out];exact hf4.trans (Gn.Fw.of_below hb5))
       have hA5:w.heap.size≤w4.heap.size:=Nat.le_trans (by omega) hf4.size
       obtain ⟨-,x0,x1⟩:=Tk.tree_cellW hf5
       have r0:Tk.Mk:=trivial)
    | (go_at_call 8
       have _t:=m2
       clear m2
       refine (Gn.pickW 2 hd1 (by omega) (by decide) (by decide)).mono ?_
       rintro e w3 ⟨x,rfl,hx,hd3,hf⟩
       have hf3:Gn.Fw R V0 w3:=hf1.trans hf
       clear hf
       have hw1:wrap64 (59+x)=59+x:=IntWalk.wrap64_in _ (by omega)
       have m2a:Tk.Mk:=trivial)
    | (go_at_call 8
       have _t:=m2a
       clear m2a
       refine (Gn.pickW 2 hd3 (by omega) (by decide) (by decide)).mono ?_
       rintro e w4 ⟨y,rfl,hy,hd4,hf⟩
       have hf4:Gn.Fw R V0 w4:=hf3.trans hf
       clear hf
       have m2b:Tk.Mk:=trivial)
    | (go_at_call 80
       have _t:=m2b
       clear m2b
       refine (Tk.many_any (59+x) y (by omega) (by omega) w4).mono ?_
       rintro e w5 ⟨a5,n5,c5,rfl,hn5,hr5,hb5⟩
       have hd5:=(hd4.below hb5).mono (P':=P+4) (by omega)
       have hf5:Gn.Fw R (w.alloc (.cells #[.slice none 0 0] 73)) w5:=(by rw [HV0.out];exact hf4.trans (Gn.Fw.of_below hb5))
       have hA5:w.heap.size≤w4.heap.size:=Nat.le_trans (by omega) hf4.size
       obtain ⟨-,x0,x1⟩:=Tk.tree_cellW hf5
       have r0:Tk.Mk:=trivial)
    | (go_at_call 8
       have _t:=m3
       clear m3
       refine (Gn.pickW 2 hd1 (by omega) (by decide) (by decide)).mono ?_
       rintro e w4 ⟨x,rfl,hx,hd4,hf⟩
       have hf4:Gn.Fw R V0 w4:=hf1.trans hf
       clear hf
       have hw1:wrap64 (8+x)=8+x:=IntWalk.wrap64_in _ (by omega)
       have m3a:Tk.Mk:=trivial)
    | (go_at_call 80
       have _t:=m3a
       clear m3a
       refine (Tk.many_any 2 (8+x) (by omega) (by omega) w4).mono ?_
       rintro e w5 ⟨a5,n5,c5,rfl,hn5,hr5,hb5⟩
       have hd5:=(hd4.below hb5).mono (P':=P+4) (by omega)
       have hf5:Gn.Fw R (w.alloc (.cells #[.slice none 0 0] 73)) w5:=(by rw [HV0.out];exact hf4.trans (Gn.Fw.of_below hb5))
       have hA5:w.heap.size≤w4.heap.size:=Nat.le_trans (by omega) hf4.size
       obtain ⟨-,x0,x1⟩:=Tk.tree_cellW hf5
       have r0:Tk.Mk:=trivial)
    | (go_at_call 8
       have _t:=m4
       clear m4
       refine (Gn.pickW 2 (hd1.below (Tk.up1 w1 (.cells #[] 71))) (by omega) (by decide) (by decide)).mono ?_
       rintro e w2 ⟨x,rfl,hx,hd2,hf⟩
       have hw1:wrap64 (8+x)=8+x:=IntWalk.wrap64_in _ (by omega)
       have hq:Tk.Rows w1.heap.size w2 (some ⟨w1.heap.size,0,none⟩) 0 0:=Tk.Rows.fw (Tk.Rows.empty w1) hf
       have hf2:Gn.Fw R V0 w2:=(hf1.trans (Gn.Fw.of_below (Tk.up1 w1 _))).trans hf
       clear hf
       have r4:Tk.Mk:=trivial))
  all_goals first
    | (have _t:=r0;exact bodyPost_ret (v:=.agg #[.slice a5 n5 c5]) (by simp [results,Tryz.results62,go_sem,x0]) rfl (Tk.tree_endW hr5 hA5 hd5 hf5 hR hw0))
    | skip
  have hs1:w.heap.size+1≤w1.heap.size:=by have:=hf1.size;omega
  go_loopw [3] (fun t3 wr => ∃ (a:Option Addr) (n c:Nat),t3 = .slice a n c∧(n:Int)≤8+x∧Hid (Tk.Rows w1.heap.size wr a n c)∧Hid (Gn.Dw R (P+1+1) w0 wr)∧Hid (Gn.Fw R V0 wr)∧w1.heap.size≤wr.heap.size) (fun t3 _=>(8+x - (Tk.rlen t3:Int)).toNat)
  case atStart=>exact ⟨_,_,_,rfl,by omega,hq,hd2,hf2,by obtain ⟨vs,_,h9,_⟩:=hq;have h8:w1.heap.size < w2.heap.size:=(Gn.row_type h9 rfl).1.2;omega⟩
  case round =>
    clear hq hd2 hf2
    obtain ⟨a,n,c,rfl,hn,hq,hd2,hf2,hz⟩:=hrel
    by_cases hlt:(n:Int) < 8+x
    · have s0:Tk.Mk:=trivial
      go_wp2_with (first
        | (go_at_call 75
           have _t:=s0
           clear s0
           refine (Gn.textNode_any _ (by decide) wr).mono ?_
           rintro e w4 ⟨a4,n4,c4,rfl,hr4,hb4⟩
           have hz4:w1.heap.size≤(w4.alloc (.cells #[.slice a4 n4 c4] 71)).heap.size:=Nat.le_trans (Nat.le_trans hz hb4.size) (Tk.up1 w4 _).size
           have hq4:=(hq.out.below hb4).below (Tk.up1 w4 (.cells #[.slice a4 n4 c4] 71))
           have hr5:=Tk.Row_below hr4 (Tk.up1 w4 (.cells #[.slice a4 n4 c4] 71))
           have hd5:=(hd2.out.below hb4).below (Tk.up1 w4 (.cells #[.slice a4 n4 c4] 71))
           have hf5:=(hf2.out.trans (Gn.Fw.of_below hb4)).trans (Gn.Fw.of_below (Tk.up1 w4 (.cells #[.slice a4 n4 c4] 71)))
           have s1:Tk.Mk:=trivial)
        | (at_builtin
           have _t:=s1
           clear s1
           refine Tk.wp_row rfl _ _ rfl hq4 hr5 (World.alloc_heap_new w4 _) hz4 (by omega) rfl rfl ?_
           intro a6 c6 w6 hq6 hb6
           have hd6:=Tk.dw_on hd5 hb6 (by omega) (by omega)
           have hf6:=Tk.fw_on hf5 hb6 (by omega)
           have hz6:=Nat.le_trans hz4 hb6.size))
      go_roundw
      case rel=>exact ⟨a6,n+1,c6,rfl,by omega,hq6,hd6,hf6,hz6⟩
      case measure=>simp only [Tk.rlen];omega
    · have s0:Tk.Mk:=trivial
      go_wp2_with (first
        | (go_at_call 77
           have _t:=s0
           clear s0
           refine (Tk.over_rows ⟨7,0,0,0,⟨#[102]⟩,0⟩ (by decide) hq.out (by omega)).mono ?_
           rintro e w3 ⟨a3,n3,c3,rfl,hr3,hb3⟩
           have s1:Tk.Mk:=trivial)
        | (go_at_call 77
           have _t:=s1
           clear s1
           refine (Gn.over1 ⟨20,0,0,0,⟨#[]⟩,0⟩ (by decide) hr3 (by decide)).mono ?_
           rintro e w4 ⟨a4,n4,c4,rfl,hr4,hb4⟩
           have s2:Tk.Mk:=trivial)
        | (go_at_call 76
           have _t:=s2
           clear s2
           refine (Tk.main_any hr4 (by decide) 1).mono ?_
           rintro e w5 ⟨a5,n5,c5,rfl,hn5,hr5,hb5⟩
           have hd5:=(((hd2.out.below hb3).below hb4).below hb5).mono (P':=P+4) (by omega)
           have hf5:Gn.Fw R (w.alloc (.cells #[.slice none 0 0] 73)) w5:=(by rw [HV0.out];exact ((hf2.out.trans (Gn.Fw.of_below hb3)).trans (Gn.Fw.of_below hb4)).trans (Gn.Fw.of_below hb5))
           have hA5:w.heap.size≤w4.heap.size:=(by have:=hb3.size;have:=hb4.size;omega)
           obtain ⟨-,x0,x1⟩:=Tk.tree_cellW hf5))
      exact bodyPost_ret (v:=.agg #[.slice a5 n5 c5]) (by simp [results,Tryz.results62,go_sem,x0]) rfl (Tk.tree_endW (hr5.mono (Nat.le_refl _) (by decide)) hA5 hd5 hf5 hR hw0)
def Tk.Fld (i:Nat) (v:Value):Prop:=(i < 6∧i≠4∧∃ z:Int,v = .int .i64 z)∨(i=4∧∃ t:ByteArray,v = .string t∧t.size≤100)
theorem Tk.Fld.num {i:Nat} (z:Int) (h:i < 6∧i≠4:=by decide):Tk.Fld i (.int .i64 z):=.inl ⟨h.1,h.2,z,rfl⟩
theorem Tk.Fld.text {t:ByteArray} (h:t.size≤100):Tk.Fld 4 (.string t):=.inr ⟨rfl,t,rfl,h⟩
theorem Tk.Fld.nd {i:Nat} {v:Value} (h:Tk.Fld i v) (d:Mill.Nd) (hd:d.text.size≤100):∃ d':Mill.Nd,d'.text.size≤100∧(Mill.ndC d).set i v=Mill.ndC d':=by
 rcases h with ⟨h1,h2,z,rfl⟩ | ⟨rfl,t,rfl,ht⟩
 ·match i,h1,h2 with
  | 0,_,_=>exact ⟨{ d with kind:=z },hd,rfl⟩
  | 1,_,_=>exact ⟨{ d with op:=z },hd,rfl⟩
  | 2,_,_=>exact ⟨{ d with type:=z },hd,rfl⟩
  | 3,_,_=>exact ⟨{ d with n:=z },hd,rfl⟩
  | 5,_,_=>exact ⟨{ d with kids:=z },hd,rfl⟩
 ·exact ⟨{ d with text:=t },ht,rfl⟩
theorem Tk.nd_set : ∀ (l:List Mill.Nd) (k i:Nat) (v:Value),k < l.length→i < 6→Tk.Fld i v→(∀ d ∈ l,d.text.size≤100)→∃ l':List Mill.Nd,l'.length=l.length∧(∀ d ∈ l',d.text.size≤100)∧(Mill.ndCs l).set (k * 6+i) v=Mill.ndCs l'
 | d::r,0,i,v,_,hi,hf,hx=>by
  obtain ⟨d',h1,h2⟩:=hf.nd d (hx d List.mem_cons_self)
  refine ⟨d'::r,rfl,fun y hy => ?_, ?_⟩
  ·rcases List.mem_cons.1 hy with rfl | hy
   ·exact h1
   ·exact hx y (List.mem_cons_of_mem _ hy)
  ·show (Mill.ndC d++Mill.ndCs r).set (0 * 6+i) v=Mill.ndC d'++Mill.ndCs r
   rw [List.set_append_left _ _ (by simp [Mill.ndC];omega),Nat.zero_mul,Nat.zero_add,h2]
 | d::r,k+1,i,v,hk,hi,hf,hx=>by
  obtain ⟨l',h1,h2,h3⟩:=Tk.nd_set r k i v (by simpa using hk) hi hf (fun y hy=>hx y (List.mem_cons_of_mem _ hy))
  refine ⟨d::l',by simp [h1],fun y hy => ?_, ?_⟩
  ·rcases List.mem_cons.1 hy with rfl | hy
   ·exact hx _ List.mem_cons_self
   ·exact h2 y hy
  ·show (Mill.ndC d++Mill.ndCs r).set ((k+1) * 6+i) v=Mill.ndC d++Mill.ndCs l'
   have e:(Mill.ndC d).length=6:=rfl
   rw [List.set_append_right _ _ (by rw [e];omega),e,show (k+1) * 6+i - 6=k * 6+i by omega,h3]
theorem Tk.heap_set {W:World} {g j:Nat} {u:Value} {cur:Array Value} {t:TypeId} (h:W.heap[g]? = some (.cells cur t)):(W.setCell ⟨g,j,none⟩ u).heap[g]? = some (.cells (cur.setIfInBounds j u) t):=by
 simp only [World.setCell,Array.getElem?_modify,h,if_true,Option.map_some];rfl
theorem Tk.own_set {W:World} {B e size n c g j:Nat} {xs:List Value} (h:W.ownsRow B e size (.slice (some ⟨g,0,none⟩) n c) n xs) (u:Value):(W.setCell ⟨g,j,none⟩ u).ownsRow B e size (.slice (some ⟨g,0,none⟩) n c) n (xs.set j u):=by
 obtain ⟨h1,h2⟩:=h
 rcases h2 with ⟨e1,_⟩ | ⟨g',cap,cur,e1,h3,h4,h5,h6,h7,h8⟩
 ·cases e1
 ·injection e1 with e2 e3 e4
  injection e2 with e2
  injection e2 with e2 _ _
  subst e2 e4
  exact ⟨by rw [List.length_set];exact h1,.inr ⟨g,c,cur.setIfInBounds j u,rfl,h3,Tk.heap_set h4,h5,h6,by rw [Array.size_setIfInBounds];exact h7,by rw [Array.toList_setIfInBounds,List.take_set,h8]⟩⟩
theorem Tk.Row_set {A K n c g k i:Nat} {W:World} {v:Value} (h:Gn.Row A W (.slice (some ⟨g,0,none⟩) n c) K) (hk:k < n) (hi:i < 6) (hf:Tk.Fld i v):Gn.Row A (W.setCell ⟨g,k * 6+i,none⟩ v) (.slice (some ⟨g,0,none⟩) n c) K:=by
 obtain ⟨l,h1,h2,h3⟩:=h
 obtain ⟨a4,c4,e4⟩:=Gn.rowLen h3
 injection e4 with e41 e42 e43
 subst e42
 obtain ⟨l',k1,k2,k3⟩:=Tk.nd_set l k i v hk hi hf h2
 have:=Tk.own_set (j:=k * 6+i) h3 v
 rw [k3] at this
 exact ⟨l',by omega,k2,by rw [k1];exact this⟩
theorem Tk.Row_cells {A K n c g k:Nat} {W:World} (h:Gn.Row A W (.slice (some ⟨g,0,none⟩) n c) K) (hk:k < n):∃ d:Mill.Nd,d.text.size≤100∧(W.cell? ⟨g,k * 6,none⟩=some (.int .i64 d.kind)∧W.cell? ⟨g,k * 6+1,none⟩=some (.int .i64 d.op)∧W.cell? ⟨g,k * 6+2,none⟩=some (.int .i64 d.type)∧W.cell? ⟨g,k * 6+3,none⟩=some (.int .i64 d.n)∧W.cell? ⟨g,k * 6+4,none⟩=some (.string d.text)∧W.cell? ⟨g,k * 6+5,none⟩=some (.int .i64 d.kids))∧∀ j,W.frozen? ⟨g,j,none⟩=false:=by
 obtain ⟨l,h1,h2,h3⟩:=h
 obtain ⟨a4,c4,e4⟩:=Gn.rowLen h3
 injection e4 with e41 e42 e43
 subst e42
 have hc:∀ j u,(Mill.ndCs l)[j]? = some u→W.cell? ⟨g,j,none⟩=some u:=fun j u hu=>Gn.own_cells h3 rfl j u hu
 have key:∀ (l:List Mill.Nd) (k:Nat) (hk:k < l.length) (i:Nat),i < 6→(Mill.ndCs l)[k * 6+i]? = (Mill.ndC l[k])[i]?:=by
  intro l
  induction l with
  | nil=>intro k hk;simp at hk
  | cons d r ih =>
   intro k hk i hi
   have e:Mill.ndCs (d::r)=Mill.ndC d++Mill.ndCs r:=rfl
   have e6:(Mill.ndC d).length=6:=rfl
   cases k with
   | zero=>rw [e,Nat.zero_mul,Nat.zero_add,List.getElem?_append_left (by omega)];rfl
   | succ k=>rw [e,List.getElem?_append_right (by omega),e6,show (k+1) * 6+i - 6=k * 6+i by omega];exact ih k (by simpa using hk) i hi
 refine ⟨l[k],h2 _ (List.getElem_mem hk),⟨hc _ _ (key l k hk 0 (by omega)),hc _ _ (key l k hk 1 (by omega)),hc _ _ (key l k hk 2 (by omega)),hc _ _ (key l k hk 3 (by omega)),hc _ _ (key l k hk 4 (by omega)),hc _ _ (key l k hk 5 (by omega))⟩,fun j => ?_⟩
 obtain ⟨_,cur,hcur⟩:=Gn.row_type h3 rfl
 simp only at hcur
 simp [World.frozen?,hcur]
structure Tk.Sp (R P:Nat) (w0 w W:World) (b4 b5 b8 g n c:Nat):Prop where
 dw:Gn.Dw R P w0 W
 fw:Gn.Fw R w W
 res:W.heap[b4]? = some (.cells #[.slice none 0 0] 73)
 out:W.heap[b5]? = some (.cells #[.slice (some ⟨g,0,none⟩) n c] 73)
 xs:∃ d:Mill.Nd,d.text.size≤100∧W.heap[b8]? = some (.cells #[.int .i64 d.kind,.int .i64 d.op,.int .i64 d.type,.int .i64 d.n,.string d.text,.int .i64 d.kids] 106)
 row:Gn.Row w.heap.size W (.slice (some ⟨g,0,none⟩) n c) 300000000
 ne1:b4≠b5
 ne2:g≠b8
 lo:w.heap.size≤b4∧w.heap.size≤b5∧w.heap.size≤b8
 rd:R < w.heap.size∧w0.heap.size≤w.heap.size
theorem Tk.Sp.draw {R P P':Nat} {w0 w W W':World} {b4 b5 b8 g n c:Nat} (h:Tk.Sp R P w0 w W b4 b5 b8 g n c) (hd:Gn.Dw R P' w0 W') (hf:Gn.Fw R W W'):Tk.Sp R P' w0 w W' b4 b5 b8 g n c :=
 ⟨hd,h.fw.trans hf,hf.blk h.res (by decide),hf.blk h.out (by decide),by obtain ⟨d,h1,h2⟩:=h.xs;exact ⟨d,h1,hf.blk h2 (by decide)⟩,h.row.fw hf,h.ne1,h.ne2,h.lo,h.rd⟩
theorem Tk.Sp.below {R P:Nat} {w0 w W W':World} {b4 b5 b8 g n c:Nat} (h:Tk.Sp R P w0 w W b4 b5 b8 g n c) (hb:Below W.heap.size W W'):Tk.Sp R P w0 w W' b4 b5 b8 g n c:=h.draw (h.dw.below hb) (Gn.Fw.of_below hb)
theorem Tk.Sp.glo {R P:Nat} {w0 w W:World} {b4 b5 b8 g n c:Nat} (h:Tk.Sp R P w0 w W b4 b5 b8 g n c):w.heap.size≤g∧∃ cur,W.heap[g]? = some (.cells cur 106):=by
 obtain ⟨l,h1,h2,h3⟩:=h.row
 obtain ⟨h4,h5⟩:=Gn.row_type h3 rfl
 exact ⟨h4.1,h5⟩
theorem Tk.set_frame {R P b i:Nat} {w0 w W:World} {v:Value} (hd:Gn.Dw R P w0 W) (hf:Gn.Fw R w W) (hb:w.heap.size≤b) (hR:R < w.heap.size∧w0.heap.size≤w.heap.size):Gn.Dw R P w0 (W.setCell ⟨b,i,none⟩ v)∧Gn.Fw R w (W.setCell ⟨b,i,none⟩ v):=by
 obtain ⟨⟨p,hp,hr⟩,h⟩:=hd
 exact ⟨⟨⟨p,hp,Gn.Rd_keep hr (fun k hk=>Gn.set_oth (by omega))⟩,⟨h.os,h.tape,h.output,Nat.le_trans h.size (by simp [World.setCell]),fun k hk hq=>(Gn.set_oth (by omega)).trans (h.keep k hk hq)⟩⟩,⟨hf.os,hf.tape,hf.output,Nat.le_trans hf.size (by simp [World.setCell]),fun k hk hq=>(Gn.set_oth (by omega)).trans (hf.keep k hk hq)⟩⟩
theorem Tk.diff {W:World} {a b s t:Nat} {x y:Array Value} (h1:W.heap[a]? = some (.cells x s)) (h2:W.heap[b]? = some (.cells y t)) (ht:s≠t):a≠b:=fun e=>by
 subst e;rw [h1] at h2;injection h2 with h2;injection h2 with _ h2 _;exact ht h2
theorem Tk.Sp.setX {R P:Nat} {w0 w W:World} {b4 b5 b8 g n c i:Nat} {v:Value} (h:Tk.Sp R P w0 w W b4 b5 b8 g n c) (hf:Tk.Fld i v):Tk.Sp R P w0 w (W.setCell ⟨b8,i,none⟩ v) b4 b5 b8 g n c:=by
 obtain ⟨d,hd1,hd2⟩:=h.xs
 obtain ⟨k1,k2⟩:=Tk.set_frame (i:=i) (v:=v) h.dw h.fw h.lo.2.2 h.rd
 obtain ⟨l,r1,r2,r3⟩:=h.row
 refine ⟨k1,k2,(Gn.set_oth (Tk.diff h.res hd2 (by decide))).trans h.res,(Gn.set_oth (Tk.diff h.out hd2 (by decide))).trans h.out, ?_,⟨l,r1,r2,Gn.own_keep r3 (fun k hk _ _=>Gn.set_oth (fun e=>h.ne2 (by simp [Value.ownBlock] at hk;omega)))⟩,h.ne1,h.ne2,h.lo,h.rd⟩
 obtain ⟨d',e1,e2⟩:=hf.nd d hd1
 refine ⟨d',e1, ?_⟩
 rw [Tk.heap_set hd2]
 congr 2
 apply Array.toList_inj.1
 rw [Array.toList_setIfInBounds]
 exact e2
theorem Tk.Sp.setRow {R P:Nat} {w0 w W:World} {b4 b5 b8 g n c k i:Nat} {v:Value} (h:Tk.Sp R P w0 w W b4 b5 b8 g n c) (hk:k < n) (hi:i < 6) (hf:Tk.Fld i v):Tk.Sp R P w0 w (W.setCell ⟨g,k * 6+i,none⟩ v) b4 b5 b8 g n c:=by
 obtain ⟨hg,cur,hcur⟩:=h.glo
 obtain ⟨k1,k2⟩:=Tk.set_frame (i:=k * 6+i) (v:=v) h.dw h.fw hg h.rd
 obtain ⟨d,hd1,hd2⟩:=h.xs
 exact ⟨k1,k2,(Gn.set_oth (Tk.diff h.res hcur (by decide))).trans h.res,(Gn.set_oth (Tk.diff h.out hcur (by decide))).trans h.out,⟨d,hd1,(Gn.set_oth (Ne.symm h.ne2)).trans hd2⟩,Tk.Row_set h.row hk hi hf,h.ne1,h.ne2,h.lo,h.rd⟩
theorem Tk.Sp.fin {R P:Nat} {w0 w W:World} {b4 b5 b8 g n c:Nat} (h:Tk.Sp R P w0 w W b4 b5 b8 g n c):Tk.WPost R P 300000000 w0 w (.returned (.agg #[.slice (some ⟨g,0,none⟩) n c])) (W.setCell ⟨b4,0,none⟩ (.slice (some ⟨g,0,none⟩) n c)):=by
 obtain ⟨hg,cur,hcur⟩:=h.glo
 obtain ⟨k1,k2⟩:=Tk.set_frame (i:=0) (v:=.slice (some ⟨g,0,none⟩) n c) h.dw h.fw h.lo.1 h.rd
 obtain ⟨l,r1,r2,r3⟩:=h.row
 exact ⟨_,_,_,rfl,⟨l,r1,r2,Gn.own_keep r3 (fun k hk _ _=>Gn.set_oth (fun e=>Tk.diff h.res hcur (by decide) (by simp [Value.ownBlock] at hk;omega)))⟩,k1,k2⟩
theorem Tk.Sp.cells {R P:Nat} {w0 w W:World} {b4 b5 b8 g n c:Nat} (h:Tk.Sp R P w0 w W b4 b5 b8 g n c):W.cell? ⟨b5,0,none⟩=some (.slice (some ⟨g,0,none⟩) n c)∧W.cell? ⟨b4,0,none⟩=some (.slice none 0 0)∧W.frozen? ⟨b4,0,none⟩=false∧W.frozen? ⟨b5,0,none⟩=false∧(∀ i,W.frozen? ⟨b8,i,none⟩=false)∧∃ d:Mill.Nd,d.text.size≤100∧W.cell? ⟨b8,0,none⟩=some (.int .i64 d.kind)∧W.cell? ⟨b8,1,none⟩=some (.int .i64 d.op)∧W.cell? ⟨b8,2,none⟩=some (.int .i64 d.type)∧W.cell? ⟨b8,3,none⟩=some (.int .i64 d.n)∧W.cell? ⟨b8,4,none⟩=some (.string d.text)∧W.cell? ⟨b8,5,none⟩=some (.int .i64 d.kids):=by
 obtain ⟨d,hd1,hd2⟩:=h.xs
 refine ⟨by rw [Lib.cell_of_heap h.out];rfl,by rw [Lib.cell_of_heap h.res];rfl,by simp [World.frozen?,h.res],by simp [World.frozen?,h.out],fun i=>by simp [World.frozen?,hd2],d,hd1, ?_⟩
 refine ⟨?_, ?_, ?_, ?_, ?_, ?_⟩ <;> (rw [Lib.cell_of_heap hd2];rfl)
theorem Tk.Row_some {A K n c:Nat} {w:World} {a:Option Addr} (h:Gn.Row A w (.slice a n c) K) (hn:n≠0):∃ g,a=some ⟨g,0,none⟩:=by
 obtain ⟨l,h1,h2,h3⟩:=h
 rcases h3.2 with ⟨e,h0⟩ | ⟨g,cap,cur,e,_⟩
 ·injection e with _ e1 _;exact absurd e1 hn
 ·injection e with e1 _ _;exact ⟨g,e1⟩
theorem Tk.k14 {k:Int} (h:0≤k∧k < 14):(k=0∧Tk.Mk)∨(k=1∧Tk.Mk)∨(k=2∧Tk.Mk)∨(k=3∧Tk.Mk)∨(k=4∧Tk.Mk)∨(k=5∧Tk.Mk)∨(k=6∧Tk.Mk)∨(k=7∧Tk.Mk)∨(k=8∧Tk.Mk)∨(k=9∧Tk.Mk)∨(k=10∧Tk.Mk)∨(k=11∧Tk.Mk)∨(k=12∧Tk.Mk)∨(k=13∧Tk.Mk):=by
 simp only [Tk.Mk,and_true];omega
def Tk.intB : Value→Bool
 | .int .i64 _=>true
 | _=>false
theorem Tk.intB_of {v:Value} (h:Tk.intB v=true):∃ z:Int,v = .int .i64 z:=by
 unfold Tk.intB at h
 split at h
 ·exact ⟨_,rfl⟩
 ·cases h
theorem Tk.tab_int {W:World} {b T:Nat} {cs:Array Value} (h:W.heap[b]? = some (.cells cs T)) (hM:cs.toList.all Tk.intB=true) (v:Nat) (hv:v < cs.size):∃ z:Int,W.cell? ⟨b,v,none⟩=some (.int .i64 z):=by
 obtain ⟨z,hz⟩:=Tk.intB_of (List.all_eq_true.1 hM cs[v] (Array.getElem_mem_toList hv))
 exact ⟨z,by rw [Lib.cell_of_heap h,Array.getElem?_eq_getElem hv,hz]⟩
theorem Tk.tab_str {W:World} {b T M:Nat} {cs:Array Value} (h:W.heap[b]? = some (.cells cs T)) (hM:cs.toList.all (Mill.strB M)=true) (v:Nat) (hv:v < cs.size):∃ z:ByteArray,W.cell? ⟨b,v,none⟩=some (.string z)∧z.size≤M:=by
 obtain ⟨z,hz,hs⟩:=Mill.strB_of (List.all_eq_true.1 hM cs[v] (Array.getElem_mem_toList hv))
 exact ⟨z,by rw [Lib.cell_of_heap h,Array.getElem?_eq_getElem hv,hz],hs⟩
theorem Tk.many31 (w:World):Calls Tryz.prog 9 #[.string ⟨#[110]⟩,.int .i64 31] w fun e w' => ∃ t:ByteArray,e = .returned (.string t)∧t.size≤31∧Below w.heap.size w w':=by
 refine (l1Many_any _ 31 w (by decide) (by omega)).mono ?_
 rintro e w' ⟨t,he,ht,hb⟩
 have e8:(⟨#[110]⟩:ByteArray).size=1:=rfl
 rw [e8] at ht
 exact ⟨t,he,by omega,hb⟩
theorem Tk.ten_ok {tm:ByteArray} (h:tm.size≤31):(#[.string ⟨#[]⟩,.string ⟨#[109,97,105,110]⟩,.string ⟨#[118,49]⟩,.string ⟨#[118,50]⟩,.string ⟨#[112,48]⟩,.string ⟨#[102,48]⟩,.string ⟨#[108,101,116]⟩,.string ⟨#[57,120]⟩,.string ⟨#[65]⟩,.string tm]:Array Value).toList.all (Mill.strB 100)=true:=by
 have h2:Mill.strB 100 (.string tm)=true:=by simp [Mill.strB];omega
 simp only [List.all_cons,List.all_nil,h2,Bool.and_true]
 decide
theorem Tk.Sp.mono {R P P':Nat} {w0 w W:World} {b4 b5 b8 g n c:Nat} (h:Tk.Sp R P w0 w W b4 b5 b8 g n c) (hP:P≤P'):Tk.Sp R P' w0 w W b4 b5 b8 g n c:=⟨h.dw.mono hP,h.fw,h.res,h.out,h.xs,h.row,h.ne1,h.ne2,h.lo,h.rd⟩
theorem Tk.nd_cells {W:World} {b T:Nat} {d:Mill.Nd} (h:W.heap[b]? = some (.cells #[.int .i64 d.kind,.int .i64 d.op,.int .i64 d.type,.int .i64 d.n,.string d.text,.int .i64 d.kids] T)):W.cell? ⟨b,0,none⟩=some (.int .i64 d.kind)∧W.cell? ⟨b,1,none⟩=some (.int .i64 d.op)∧W.cell? ⟨b,2,none⟩=some (.int .i64 d.type)∧W.cell? ⟨b,3,none⟩=some (.int .i64 d.n)∧W.cell? ⟨b,4,none⟩=some (.string d.text)∧W.cell? ⟨b,5,none⟩=some (.int .i64 d.kids)∧∀ i,W.frozen? ⟨b,i,none⟩=false:=by
 refine ⟨?_, ?_, ?_, ?_, ?_, ?_,fun i=>by simp [World.frozen?,h]⟩ <;> (rw [Lib.cell_of_heap h];rfl)
theorem Tk.mod_nat {v n:Int} (_hv:0≤v) (hn:0 < n):∃ m:Nat,v % n=(m:Int)∧m < n.toNat:=⟨(v % n).toNat,by have:=Int.emod_nonneg v (by omega:n≠0);omega,by have:=Int.emod_nonneg v (by omega:n≠0);have:=Int.emod_lt_of_pos v hn;omega⟩
theorem Tk.row_end {R P K n c b4:Nat} {w w0 W:World} {a:Option Addr} (hr:Gn.Row w.heap.size W (.slice a n c) K) (hd:Gn.Dw R P w0 W) (hf:Gn.Fw R w W) (hs:W.heap[b4]? = some (.cells #[.slice none 0 0] 73)) (hR:R < w.heap.size∧w0.heap.size≤w.heap.size) (hb:w.heap.size≤b4) {P':Nat} (hP:P≤P'):Tk.WPost R P' K w0 w (.returned (.agg #[.slice a n c])) (W.setCell ⟨b4,0,none⟩ (.slice a n c)):=by
 obtain ⟨k1,k2⟩:=Tk.set_frame (i:=0) (v:=.slice a n c) hd hf hb hR
 obtain ⟨l,r1,r2,r3⟩:=hr
 refine ⟨a,n,c,rfl,⟨l,r1,r2,Gn.own_keep r3 (fun k hk _ _=>Gn.set_oth (fun e => ?_))⟩,k1.mono hP,k2⟩
 obtain ⟨_,c1,hc1⟩:=Gn.row_type r3 hk
 exact Tk.diff hs hc1 (by decide) e.symm
theorem Tk.sp_new {R P b5 b4 g n c:Nat} {w0 w V W:World} (hf1:Gn.Fw R w V) (hf:Gn.Fw R V W) (hd:Gn.Dw R P w0 W) (hr:Gn.Row w.heap.size W (.slice (some ⟨g,0,none⟩) n c) 300000000) (ho:W.heap[b5]? = some (.cells #[.slice (some ⟨g,0,none⟩) n c] 73)) (hs:W.heap[b4]? = some (.cells #[.slice none 0 0] 73)) (d:Mill.Nd) (hdt:d.text.size≤100) (hne:b4≠b5) (hR:R < w.heap.size∧w0.heap.size≤w.heap.size) (hlo:w.heap.size≤b4∧w.heap.size≤b5):Tk.Sp R P w0 w (W.alloc (.cells #[.int .i64 d.kind,.int .i64 d.op,.int .i64 d.type,.int .i64 d.n,.string d.text,.int .i64 d.kids] 106)) b4 b5 W.heap.size g n c:=by
 have hb:=Tk.up1 W (.cells #[.int .i64 d.kind,.int .i64 d.op,.int .i64 d.type,.int .i64 d.n,.string d.text,.int .i64 d.kids] 106)
 have hl:∀ {b:Nat} {x:Obj},W.heap[b]? = some x→b < W.heap.size:=fun h=>(Array.getElem?_eq_some_iff.1 h).1
 have hg:g < W.heap.size:=by
  obtain ⟨l,h1,h2,h3⟩:=hr
  exact (Gn.row_type h3 rfl).1.2
 exact ⟨hd.below hb,(hf1.trans hf).trans (Gn.Fw.of_below hb),(hb.block b4 (hl hs)).trans hs,(hb.block b5 (hl ho)).trans ho,⟨d,hdt,World.alloc_heap_new W _⟩,Tk.Row_below hr hb,hne,by omega,⟨hlo.1,hlo.2,by have:=hl ho;omega⟩,hR⟩
theorem Tk.four_row (w:World):Gn.Row w.heap.size (w.alloc (.cells #[.int .i64 1,.int .i64 0,.int .i64 7,.int .i64 1,.string ⟨#[]⟩,.int .i64 0,.int .i64 2,.int .i64 0,.int .i64 0,.int .i64 0,.string ⟨#[115]⟩,.int .i64 0,.int .i64 3,.int .i64 0,.int .i64 0,.int .i64 0,.string ⟨#[]⟩,.int .i64 0,.int .i64 14,.int .i64 0,.int .i64 0,.int .i64 0,.string ⟨#[]⟩,.int .i64 0] 106)) (.slice (some ⟨w.heap.size,0,none⟩) 4 4) 4 :=
 ⟨[⟨1,0,7,1,⟨#[]⟩,0⟩,⟨2,0,0,0,⟨#[115]⟩,0⟩,⟨3,0,0,0,⟨#[]⟩,0⟩,⟨14,0,0,0,⟨#[]⟩,0⟩],Nat.le_refl _,fun d hd=>by simp only [List.mem_cons,List.not_mem_nil,or_false] at hd;rcases hd with rfl | rfl | rfl | rfl <;> decide,Gn.new_row w w.heap.size (Nat.le_refl _) [⟨1,0,7,1,⟨#[]⟩,0⟩,⟨2,0,0,0,⟨#[115]⟩,0⟩,⟨3,0,0,0,⟨#[]⟩,0⟩,⟨14,0,0,0,⟨#[]⟩,0⟩] (by decide)⟩
noncomputable def Tk.findB : Code→Option (Code × Code)
 | .seq (.block 0 c) b=>some (.block 0 c,b)
 | .seq (.seq _ (.block 0 c)) b=>some (.block 0 c,b)
 | .seq a b=>(Tk.findB a).orElse fun _=>Tk.findB b
 | .cond _ a b=>(Tk.findB a).orElse fun _=>Tk.findB b
 | .block _ c=>Tk.findB c
 | .loop c=>Tk.findB c
 | _=>none
noncomputable def Tk.swBoth : Code × Code:=((Tryz.f63.body).bind Tk.findB).getD (.skip,.skip)
end Go.Proofs.YtfoimmnlojjfbaaGreatDoor
