import Derived.Test.YtfoimmnlojjfbaaGreatDoorKGenO
import Derived.Test.YtfoimmnlojjfbaaGreatDoorKTkD
import Derived.Test.YtfoimmnlojjfbaaGreatDoorKDecG
import Derived.Test.YtfoimmnlojjfbaaGreatDoorKGnD
set_option maxRecDepth 100000
set_option maxHeartbeats 4000000
namespace Go.Proofs.YtfoimmnlojjfbaaGreatDoor
open Go.RowKit
theorem Tk.wp_rows {w:World} {ops:Array Oper} {rest:List Oper} {o:Oper} {a:Act} {Q:Exit→Act→World→Prop} (hgd:o.guard=none) (s x:Operand)
  (ho:o.op = .call { callee:=.builtin .append,args := #[s,x],argTypes := #[71,71] }) {A1 A2 K1 K2 dn dc sn sc:Nat} {da sa:Option Addr} (hs:a.eval s = .slice da dn dc) (hx:a.eval x = .slice sa sn sc) (h1:Gn.Row A1 w (.slice da dn dc) K1) (h2:Gn.Row A2 w (.slice sa sn sc) K2) (hA:A1≤w.heap.size) (hK:K1+K2≤1000000000)
  (h:∀ a' n' c' w',Gn.Row A1 w' (.slice a' n' c') (K1+K2)→n'=dn+sn→(∀ V:World,V.heap.size≤A1→Below V.heap.size V w→Below V.heap.size V w')→w.heap.size≤w'.heap.size→wpList Tryz.prog ops Q rest (a.put o.dst (.slice a' n' c')) w') :
  wpList Tryz.prog ops Q (o::rest) a w:=by
 obtain ⟨i0,hi0,hy0,hy1,hy2⟩:=info_parts Gn.infoNode
 obtain ⟨l1,p1,p2,p3⟩:=h1
 obtain ⟨l2,q1,q2,q3⟩:=h2
 obtain ⟨a3,c3,e3⟩:=Gn.rowLen q3
 injection e3 with e31 e32 e33
 subst e31;subst e32;subst e33
 obtain ⟨a4,c4,e4⟩:=Gn.rowLen p3
 injection e4 with e41 e42 e43
 subst e41;subst e42;subst e43
 refine Gn.wp_append_any hgd s x 71 ho A1 106 i0 (.agg #[.int .i64 0,.int .i64 0,.int .i64 0,.int .i64 0,.string ⟨#[]⟩,.int .i64 0]) 6 56 Tryz.underlying71 hi0 hy0 hy1 hy2 rfl (by decide) _ _ _ hs p3 sa l2.length sc hx (Mill.ndCs l2) (Gn.nd_len l2) (Gn.own_src q3) (Gn.nd_one l2) (by unfold maxLen;omega) (by omega) hA ?_
 intro v6 w6 hown6 hg6
 obtain ⟨a7,c7,e7⟩:=Gn.rowLen hown6
 subst e7
 refine h a7 _ c7 w6 ⟨l1++l2, ?_, ?_, ?_⟩ rfl (fun V hV hb => ?_) hg6.size
 ·rw [List.length_append];omega
 ·intro y hy
  rcases List.mem_append.1 hy with hy | hy
  ·exact p2 y hy
  ·exact q2 y hy
 ·rw [List.length_append,Mill.ndCs,List.flatMap_append];exact hown6
 ·refine ⟨hg6.os.trans hb.os,hg6.tape.trans hb.tape,hg6.output.trans hb.output,Nat.le_trans hb.size hg6.size,fun k hk=>(hg6.block k (Nat.lt_of_lt_of_le hk hb.size) (fun e => ?_)).trans (hb.block k hk)⟩
  have:=(Gn.row_type p3 e.symm).1.1
  omega
theorem Tk.Row_below {A K:Nat} {w w':World} {v:Value} (h:Gn.Row A w v K) (hb:Below w.heap.size w w'):Gn.Row A w' v K:=h.fr (Gn.Fr.of_below (B:=0) hb)
theorem Tk.empty_row (w:World):Gn.Row w.heap.size (w.alloc (.cells #[] 106)) (.slice (some ⟨w.heap.size,0,none⟩) 0 0) 0 :=
 ⟨[],Nat.le_refl _,fun d hd=>absurd hd List.not_mem_nil,Gn.new_row w w.heap.size (Nat.le_refl _) [] (by decide)⟩
theorem Tk.new_two (w:World) (d e:Mill.Nd) (hd:d.text.size≤100) (he:e.text.size≤100):Gn.Row w.heap.size (w.alloc (.cells #[.int .i64 d.kind,.int .i64 d.op,.int .i64 d.type,.int .i64 d.n,.string d.text,.int .i64 d.kids,.int .i64 e.kind,.int .i64 e.op,.int .i64 e.type,.int .i64 e.n,.string e.text,.int .i64 e.kids] 106)) (.slice (some ⟨w.heap.size,0,none⟩) 2 2) 2 :=
 ⟨[d,e],Nat.le_refl _,fun x hx=>by
  rcases List.mem_cons.1 hx with rfl | hx
  ·exact hd
  ·rw [List.mem_singleton.1 hx];exact he,Gn.new_row w w.heap.size (Nat.le_refl _) [d,e] (by simp)⟩
def Tk.TPost (K:Nat) (w:World) (e:Ending) (w':World):Prop := ∃ a n c,e = .returned (.agg #[.slice a n c])∧1≤n∧Gn.Row w.heap.size w' (.slice a n c) K∧Below w.heap.size w w'
theorem Tk.tree_end {w W:World} {a:Option Addr} {n c K:Nat} (hr:Gn.Row (w.heap.size+1) W (.slice a n c) K) (hn:1≤n) (hb:Below (w.heap.size+1) (w.alloc (.cells #[.slice none 0 0] 73)) W):Tk.TPost K w (.returned (.agg #[.slice a n c])) (W.setCell ⟨w.heap.size,0,none⟩ (.slice a n c)):=by
 have hT:W.heap[w.heap.size]? = some (.cells #[.slice none 0 0] 73):=(hb.block w.heap.size (by omega)).trans (World.alloc_heap_new w _)
 have hk:=((Below.refl w.heap.size w).alloc (Nat.le_refl _) (.cells #[.slice none 0 0] 73)).trans (hb.mono (by omega))
 obtain ⟨l,h1,h2,h3⟩:=hr
 refine ⟨a,n,c,rfl,hn,⟨l,h1,h2,Gn.own_keep (Gn.own_mono h3 (by omega)) (fun k hk _ _=>Gn.set_oth (fun e => ?_))⟩,⟨hk.os,hk.tape,hk.output,Nat.le_trans hk.size (by simp [World.setCell]),fun k hk1=>(Gn.set_oth (by omega)).trans (hk.block k hk1)⟩⟩
 obtain ⟨_,c1,hc1⟩:=Gn.row_type h3 hk
 subst e;rw [hT] at hc1;injection hc1 with hc1;injection hc1 with _ hc1 _;exact absurd hc1 (by decide)
theorem Tk.tree_cell {w W:World} (hb:Below (w.heap.size+1) (w.alloc (.cells #[.slice none 0 0] 73)) W):W.cell? ⟨w.heap.size,0,none⟩=some (.slice none 0 0)∧W.frozen? ⟨w.heap.size,0,none⟩=false:=by
 have hT:W.heap[w.heap.size]? = some (.cells #[.slice none 0 0] 73):=(hb.block w.heap.size (by omega)).trans (World.alloc_heap_new w _)
 exact ⟨by simp [World.cell?,hT],by simp [World.frozen?,hT]⟩
theorem Tk.bl {a b c:World} {A B:Nat} (h1:Below A a b) (h2:Below B b c) (h:A≤B):Below A a c:=h1.trans (h2.mono h)
theorem Tk.up1 (w:World) (o:Obj):Below w.heap.size w (w.alloc o):=(Below.refl _ w).alloc (Nat.le_refl _) o
theorem Tk.main_any {A K:Nat} {w:World} {a:Option Addr} {n c:Nat} (h:Gn.Row A w (.slice a n c) K) (hK:K≤300000000) (m:Int) :
    Calls Tryz.prog 76 #[.slice a n c,.int .i64 m] w (Tk.TPost (K+5) w):=by
  have t0:Tk.Mk:=trivial
  obtain ⟨V0,hV0⟩:∃ V,w.alloc (.cells #[.slice none 0 0] 73)=V:=⟨_,rfl⟩
  have hs0:V0.heap.size=w.heap.size+1:=by rw [← hV0];simp
  have hE:Gn.Row (w.heap.size+1) (V0.alloc (.cells #[] 106)) (.slice (some ⟨w.heap.size+1,0,none⟩) 0 0) 0:=by have:=Tk.empty_row V0;rw [hs0] at this;exact this
  have hBd:Gn.Row A (V0.alloc (.cells #[] 106)) (.slice a n c) K:=Tk.Row_below (Tk.Row_below h (by rw [← hV0];exact Tk.up1 w _)) (Tk.up1 V0 _)
  have hV1:Below (w.heap.size+1) V0 (V0.alloc (.cells #[] 106)):=by rw [← hs0];exact Tk.up1 V0 _
  have hz1:w.heap.size+1≤(V0.alloc (.cells #[] 106)).heap.size:=by simp [hs0]
  have b1:0+K≤1000000000:=by omega
  have b2:0+K+2≤1000000000:=by omega
  have b3:0+K+2+1≤1000000000:=by omega
  have b4:0+K+2+1+2≤1000000000:=by omega
  clear h
  go_enter Tryz.func76,Tryz.ntmps76
  go_wp2_with (first
    | (at_builtin
       have _t:=t0
       clear t0
       refine Tk.wp_rows rfl _ _ rfl rfl rfl hE hBd hz1 b1 ?_
       intro a1 n1 c1 w1 hr1 hn1 hf1 hy1
       clear hn1
       have hb1:Below (w.heap.size+1) V0 w1:=(by have:=hf1 V0 (by omega) (by rw [hs0];exact hV1);rw [hs0] at this;exact this)
       have hw1:w.heap.size+1≤w1.heap.size:=(by have:=hb1.size;omega)
       clear hE hBd hf1 hy1
       have t1:Tk.Mk:=trivial)
    | (go_at_call 75
       have _t:=t1
       clear t1
       refine (Gn.textNode_any _ (by decide) w1).mono ?_
       rintro e w2 ⟨a2,n2,c2,rfl,hr2,hb2⟩
       have t2:Tk.Mk:=trivial)
    | (go_at_call 77
       have _t:=t2
       clear t2
       refine (Gn.over1 ⟨16,0,0,0,⟨#[]⟩,0⟩ (by decide) hr2 (by decide)).mono ?_
       rintro e w3 ⟨a3,n3,c3,rfl,hr3,hb3⟩
       have hrx:=Tk.Row_below (Tk.Row_below hr1 hb2) hb3
       have hb4:Below (w.heap.size+1) V0 w3:=Tk.bl (Tk.bl hb1 hb2 hw1) hb3 (Nat.le_trans hw1 hb2.size)
       have hw3:w.heap.size+1≤w3.heap.size:=Nat.le_trans (Nat.le_trans hw1 hb2.size) hb3.size
       clear hr1 hb2 hb3 hr2 hb1
       have t3:Tk.Mk:=trivial)
    | (at_builtin
       have _t:=t3
       clear t3
       refine Tk.wp_rows rfl _ _ rfl rfl rfl hrx hr3 hw3 b2 ?_
       intro a4 n4 c4 w4 hr4 hn4 hf4 hy4
       clear hn4
       have hb5:Below (w.heap.size+1) V0 w4:=(by have:=hf4 V0 (by omega) (by rw [hs0];exact hb4);rw [hs0] at this;exact this)
       have hw4:w.heap.size+1≤w4.heap.size:=Nat.le_trans hw3 hy4
       have hq4:=Tk.Row_below hr4 (Tk.up1 w4 (.cells #[.int .i64 21,.int .i64 0,.int .i64 0,.int .i64 0,.string ⟨#[]⟩,.int .i64 (wrap64 (m+1))] 106))
       have hb6:Below (w.heap.size+1) V0 (w4.alloc (.cells #[.int .i64 21,.int .i64 0,.int .i64 0,.int .i64 0,.string ⟨#[]⟩,.int .i64 (wrap64 (m+1))] 106)):=Tk.bl hb5 (Tk.up1 w4 _) hw4
       clear hrx hr3 hf4 hr4
       have t4:Tk.Mk:=trivial)
    | (at_builtin
       have _t:=t4
       clear t4
       refine Tk.wp_rows rfl _ _ rfl rfl rfl hq4 (Gn.new_one w4 ⟨21,0,0,0,⟨#[]⟩,wrap64 (m+1)⟩ Gn.no_text) (Nat.le_trans hw4 (Tk.up1 w4 _).size) b3 ?_
       intro a5 n5 c5 w5 hr5 hn5 hf5 hy5
       clear hn5
       have hb7:Below (w.heap.size+1) V0 w5:=(by have:=hf5 V0 (by omega) (by rw [hs0];exact hb6);rw [hs0] at this;exact this)
       have hw5:w.heap.size+1≤w5.heap.size:=Nat.le_trans (Nat.le_trans hw4 (Tk.up1 w4 _).size) hy5
       have hq5:=Tk.Row_below hr5 (Tk.up1 w5 (.cells #[.int .i64 23,.int .i64 0,.int .i64 2,.int .i64 0,.string ⟨#[109,97,105,110]⟩,.int .i64 1,.int .i64 24,.int .i64 0,.int .i64 0,.int .i64 0,.string ⟨#[]⟩,.int .i64 1] 106))
       have hb8:Below (w.heap.size+1) V0 (w5.alloc (.cells #[.int .i64 23,.int .i64 0,.int .i64 2,.int .i64 0,.string ⟨#[109,97,105,110]⟩,.int .i64 1,.int .i64 24,.int .i64 0,.int .i64 0,.int .i64 0,.string ⟨#[]⟩,.int .i64 1] 106)):=Tk.bl hb7 (Tk.up1 w5 _) hw5
       clear hq4 hf5 hr5
       have t5:Tk.Mk:=trivial)
    | (at_builtin
       have _t:=t5
       clear t5
       refine Tk.wp_rows rfl _ _ rfl rfl rfl hq5 (Tk.new_two w5 ⟨23,0,2,0,⟨#[109,97,105,110]⟩,1⟩ ⟨24,0,0,0,⟨#[]⟩,1⟩ (by decide) (by decide)) (Nat.le_trans hw5 (Tk.up1 w5 _).size) b4 ?_
       intro a6 n6 c6 w6 hr6 hn6 hf6 hy6
       have hb9:Below (w.heap.size+1) V0 w6:=(by have:=hf6 V0 (by omega) (by rw [hs0];exact hb8);rw [hs0] at this;exact this)
       have hn1:1≤n6:=(by omega)
       rw [← hV0] at hb9
       obtain ⟨x0,x1⟩:=Tk.tree_cell hb9
       clear hq5 hf6 hn6))
  exact bodyPost_ret (v:=.agg #[.slice a6 n6 c6]) (by simp [results,Tryz.results76,go_sem,x0]) rfl (Tk.tree_end (hr6.mono (Nat.le_refl _) (by omega)) hn1 hb9)
theorem Tk.bin (op:Int) {a a':Option Addr} {n c n' c' K K' A A':Nat} {w:World} (h:Gn.Row A w (.slice a n c) K) (h':Gn.Row A' w (.slice a' n' c') K') (hK:K+K'≤1000000000) :
  Calls Tryz.prog 99 #[.int .i64 op,.slice a n c,.slice a' n' c'] w (Gn.RPost (K+K'+1) w):=by
 have HH:Hid (Calls Tryz.prog 77 #[.agg #[.int .i64 6,.int .i64 op,.int .i64 0,.int .i64 0,.string ⟨#[]⟩,.int .i64 0],.slice (some ⟨w.heap.size,0,none⟩) 2 2] (w.alloc (.cells #[.slice a n c,.slice a' n' c'] 71)) (Gn.RPost (K+K'+1) w)):=Gn.over2s ⟨6,op,0,0,⟨#[]⟩,0⟩ Gn.no_text h h' hK
 clear h h'
 go_enter Tryz.func99,Tryz.ntmps99
 go_wp2_with fail
 refine HH.out.mono ?_
 rintro e w1 ⟨a,n,c,rfl,hr,hb2⟩
 go_wp2
 go_ret
 exact ⟨a,n,c,rfl,hr,hb2⟩
theorem Tk.deep_any (N:Int) (hN:4≤N∧N≤1000) (w:World):Calls Tryz.prog 78 #[.int .i64 N] w (Tk.TPost 3000 w):=by
  obtain ⟨V0,hV0⟩:∃ V,w.alloc (.cells #[.slice none 0 0] 73)=V:=⟨_,rfl⟩
  have hs0:V0.heap.size=w.heap.size+1:=by rw [← hV0];simp
  have HV0:Hid (w.alloc (.cells #[.slice none 0 0] 73)=V0):=hV0
  have hwN:wrap64 (N - 4)=N - 4:=IntWalk.wrap64_in _ (by omega)
  have t0:Tk.Mk:=trivial
  go_enter Tryz.func78,Tryz.ntmps78
  go_wp2_with (first
    | (go_at_call 75
       have _t:=t0
       clear t0
       refine (Gn.textNode_any _ (by decide) V0).mono ?_
       rintro e w1 ⟨a1,n1,c1,rfl,hr1,hb1⟩
       rw [hs0] at hr1 hb1))
  go_loopw [3,4] (fun t3 t4 wr => ∃ (j:Int) (a:Option Addr) (n c:Nat),(0≤j∧j≤N - 4)∧t4 = .int .i64 j∧t3 = .slice a n c∧Hid (Gn.Row (w.heap.size+1) wr (.slice a n c) (1+2 * j.toNat))∧Hid (Below (w.heap.size+1) V0 wr)) (fun _ t4 _=>(N - 4 - intOf t4).toNat)
  case atStart=>exact ⟨0,a1,n1,c1,by omega,rfl,rfl,hr1,hb1⟩
  case round =>
    obtain ⟨j,a,n,c,hj,rfl,rfl,hr,hb⟩:=hrel
    clear hV0
    have hz:w.heap.size+1≤wr.heap.size:=by have:=hb.out.size;omega
    by_cases hlt:j < N - 4
    · have hwj:wrap64 (j+1)=j+1:=IntWalk.wrap64_in _ (by omega)
      have s0:Tk.Mk:=trivial
      go_wp2_with (first
        | (go_at_call 75
           have _t:=s0
           clear s0
           refine (Gn.textNode_any _ (by decide) wr).mono ?_
           rintro e w2 ⟨a2,n2,c2,rfl,hr2,hb2⟩
           have s1:Tk.Mk:=trivial)
        | (go_at_call 99
           have _t:=s1
           clear s1
           refine (Tk.bin 9 (Tk.Row_below hr.out hb2) hr2 (by omega)).mono ?_
           rintro e w3 ⟨a3,n3,c3,rfl,hr3,hb3⟩))
      have hb4:Below (w.heap.size+1) V0 w3:=Tk.bl (Tk.bl hb.out hb2 hz) hb3 (Nat.le_trans hz hb2.size)
      have hr4:Gn.Row (w.heap.size+1) w3 (.slice a3 n3 c3) (1+2 * (j+1).toNat):=hr3.mono (Nat.le_trans hz hb2.size) (by omega)
      go_roundw
      case rel=>exact ⟨j+1,a3,n3,c3,by omega,rfl,rfl,hr4,hb4⟩
      case measure=>simp only [intOf];omega
    · have s0:Tk.Mk:=trivial
      go_wp2_with (first
        | (go_at_call 77
           have _t:=s0
           clear s0
           refine (Gn.over1 ⟨19,0,0,0,⟨#[]⟩,0⟩ (by decide) hr.out (by omega)).mono ?_
           rintro e w2 ⟨a2,n2,c2,rfl,hr2,hb2⟩
           have s1:Tk.Mk:=trivial)
        | (go_at_call 76
           have _t:=s1
           clear s1
           refine (Tk.main_any hr2 (by omega) 1).mono ?_
           rintro e w3 ⟨a3,n3,c3,rfl,hn3,hr3,hb3⟩
           have hb4:Below (w.heap.size+1) (w.alloc (.cells #[.slice none 0 0] 73)) w3:=(by rw [HV0.out];exact Tk.bl (Tk.bl hb.out hb2 hz) hb3 (Nat.le_trans hz hb2.size))
           obtain ⟨x0,x1⟩:=Tk.tree_cell hb4))
      exact bodyPost_ret (v:=.agg #[.slice a3 n3 c3]) (by simp [results,Tryz.results78,go_sem,x0]) rfl (Tk.tree_end (hr3.mono (Nat.le_trans hz hb2.size) (by omega)) hn3 hb4)
theorem Tk.lead (b:UInt8) {t:ByteArray} (h:t.size≤20):((⟨#[b]⟩:ByteArray)++t).size≤100:=by
 rw [ByteArray.size_append]
 have:(⟨#[b]⟩:ByteArray).size=1:=rfl
 omega
theorem Tk.wide_any (N:Int) (hN:0≤N∧N≤1000) (w:World):Calls Tryz.prog 79 #[.int .i64 N] w (Tk.TPost 3000 w):=by
  obtain ⟨V0,hV0⟩:∃ V,w.alloc (.cells #[.slice none 0 0] 73)=V:=⟨_,rfl⟩
  have hs0:V0.heap.size=w.heap.size+1:=by rw [← hV0];simp
  have HV0:Hid (w.alloc (.cells #[.slice none 0 0] 73)=V0):=hV0
  have hE:Gn.Row (w.heap.size+1) (V0.alloc (.cells #[] 106)) (.slice (some ⟨w.heap.size+1,0,none⟩) 0 0) 0:=by have:=Tk.empty_row V0;rw [hs0] at this;exact this
  have hV1:Below (w.heap.size+1) V0 (V0.alloc (.cells #[] 106)):=by rw [← hs0];exact Tk.up1 V0 _
  go_enter Tryz.func79,Tryz.ntmps79
  go_wp2_with fail
  go_loopw [3,4] (fun t3 t4 wr => ∃ (j:Int) (a:Option Addr) (n c:Nat),(0≤j∧j≤N)∧t4 = .int .i64 j∧t3 = .slice a n c∧Hid (Gn.Row (w.heap.size+1) wr (.slice a n c) (2 * j.toNat))∧Hid (Below (w.heap.size+1) V0 wr)) (fun _ t4 _=>(N - intOf t4).toNat)
  case atStart=>exact ⟨0,_,_,_,by omega,rfl,rfl,hE,hV1⟩
  case round =>
    obtain ⟨j,a,n,c,hj,rfl,rfl,hr,hb⟩:=hrel
    clear hV0 hE hV1
    have hz:w.heap.size+1≤wr.heap.size:=by have:=hb.out.size;omega
    by_cases hlt:j < N
    · have hwj:wrap64 (j+1)=j+1:=IntWalk.wrap64_in _ (by omega)
      have bK:2 * j.toNat+(1+1)≤1000000000:=by omega
      have s0:Tk.Mk:=trivial
      go_wp2_with (first
        | (go_at_call 18
           have _t:=s0
           clear s0
           refine (Gn.dec_any j hj.1 (by omega) wr).mono ?_
           rintro e w2 ⟨t,rfl,ht,hb2⟩
           have hl:=Tk.lead 119 ht
           have s1:Tk.Mk:=trivial)
        | (go_at_call 100
           have _t:=s1
           clear s1
           refine (Gn.int_any 3 _ w2).mono ?_
           rintro e w3 ⟨a3,n3,c3,rfl,hr3,hb3⟩
           have s2:Tk.Mk:=trivial)
        | (go_at_call 77
           have _t:=s2
           clear s2
           refine (Gn.over1 ⟨10,0,0,0,(⟨#[119]⟩:ByteArray)++t,0⟩ hl hr3 (by decide)).mono ?_
           rintro e w4 ⟨a4,n4,c4,rfl,hr4,hb4⟩
           have hrx:=Tk.Row_below (Tk.Row_below (Tk.Row_below hr.out hb2) hb3) hb4
           have hz4:w.heap.size+1≤w4.heap.size:=Nat.le_trans (Nat.le_trans (Nat.le_trans hz hb2.size) hb3.size) hb4.size
           have hb5:Below (w.heap.size+1) V0 w4:=Tk.bl (Tk.bl (Tk.bl hb.out hb2 hz) hb3 (Nat.le_trans hz hb2.size)) hb4 (Nat.le_trans (Nat.le_trans hz hb2.size) hb3.size)
           have s3:Tk.Mk:=trivial)
        | (at_builtin
           have _t:=s3
           clear s3
           refine Tk.wp_rows rfl _ _ rfl rfl rfl hrx hr4 hz4 bK ?_
           intro a6 n6 c6 w6 hr6 hn6 hf6 hy6
           clear hn6
           have hb6:Below (w.heap.size+1) V0 w6:=(by have:=hf6 V0 (by omega) (by rw [hs0];exact hb5);rw [hs0] at this;exact this)
           have hr7:Gn.Row (w.heap.size+1) w6 (.slice a6 n6 c6) (2 * (j+1).toNat):=hr6.mono (Nat.le_refl _) (by omega)))
      go_roundw
      case rel=>exact ⟨j+1,a6,n6,c6,by omega,rfl,rfl,hr7,hb6⟩
      case measure=>simp only [intOf];omega
    · go_wp2_with (first
        | (go_at_call 76
           refine (Tk.main_any hr.out (by omega) N).mono ?_
           rintro e w3 ⟨a3,n3,c3,rfl,hn3,hr3,hb3⟩
           have hb4:Below (w.heap.size+1) (w.alloc (.cells #[.slice none 0 0] 73)) w3:=(by rw [HV0.out];exact Tk.bl hb.out hb3 hz)
           obtain ⟨x0,x1⟩:=Tk.tree_cell hb4))
      exact bodyPost_ret (v:=.agg #[.slice a3 n3 c3]) (by simp [results,Tryz.results79,go_sem,x0]) rfl (Tk.tree_end (hr3.mono hz (by omega)) hn3 hb4)
theorem Tk.Row_cut {A K n c:Nat} {w:World} {a:Option Addr} (h:Gn.Row A w (.slice a n c) K) (m:Nat) (hm:m≤n):Gn.Row A w (.slice a m c) K:=by
 obtain ⟨l,h1,h2,h3⟩:=h
 obtain ⟨a4,c4,e4⟩:=Gn.rowLen h3
 injection e4 with e41 e42 e43
 subst e41;subst e42;subst e43
 have hl:(l.take m).length=m:=by rw [List.length_take];omega
 refine ⟨l.take m,by omega,fun d hd=>h2 d (List.mem_of_mem_take hd), ?_⟩
 have:=Gn.own_cut h3 m hm
 rw [hl]
 have e:(Mill.ndCs l).take (m * 6)=Mill.ndCs (l.take m):=by
  unfold Mill.ndCs
  clear this hl hm h1 h2 h3
  induction l generalizing m with
  | nil=>simp
  | cons d r ih =>
   cases m with
   | zero=>simp
   | succ k =>
    have:=ih k
    rw [List.take_succ_cons,List.flatMap_cons,List.flatMap_cons,show (k+1) * 6=(Mill.ndC d).length+k * 6 by simp [Mill.ndC];omega,List.take_length_add_append,this]
 rw [← e];exact this
theorem Tk.Row_cap {A K n c:Nat} {w:World} {a:Option Addr} (h:Gn.Row A w (.slice a n c) K):n≤c:=by
 obtain ⟨l,_,_,h3⟩:=h
 rcases h3.2 with ⟨e,h0⟩ | ⟨g,cap,cur,e,_,_,h4,_⟩
 ·injection e with _ e1 e2;omega
 ·injection e with _ e1 e2;omega
theorem Tk.Row_len {A K n c:Nat} {w:World} {a:Option Addr} (h:Gn.Row A w (.slice a n c) K):n≤K:=by
 obtain ⟨l,h1,_,h3⟩:=h
 obtain ⟨a4,c4,e4⟩:=Gn.rowLen h3
 injection e4 with e41 e42 e43
 omega
theorem Tk.many_any (N M:Int) (hN:0≤N∧N≤200) (hM:0≤M∧M≤20) (w:World):Calls Tryz.prog 80 #[.int .i64 N,.int .i64 M] w (Tk.TPost 6000 w):=by
  obtain ⟨V0,hV0⟩:∃ V,w.alloc (.cells #[.slice none 0 0] 73)=V:=⟨_,rfl⟩
  have hs0:V0.heap.size=w.heap.size+1:=by rw [← hV0];simp
  have HV0:Hid (w.alloc (.cells #[.slice none 0 0] 73)=V0):=hV0
  have hE:Gn.Row (w.heap.size+1) (V0.alloc (.cells #[] 106)) (.slice (some ⟨w.heap.size+1,0,none⟩) 0 0) 0:=by have:=Tk.empty_row V0;rw [hs0] at this;exact this
  have hV1:Below (w.heap.size+1) V0 (V0.alloc (.cells #[] 106)):=by rw [← hs0];exact Tk.up1 V0 _
  have hwM:wrap64 (M+1)=M+1:=IntWalk.wrap64_in _ (by omega)
  have hwN:wrap64 (N+1)=N+1:=IntWalk.wrap64_in _ (by omega)
  go_enter Tryz.func80,Tryz.ntmps80
  go_wp2_with fail
  go_loopw [5,6] (fun t3 t4 wr => ∃ (j:Int) (a:Option Addr) (n c:Nat),(0≤j∧j≤N)∧t4 = .int .i64 j∧t3 = .slice a n c∧Hid (Gn.Row (w.heap.size+1) wr (.slice a n c) (25 * j.toNat))∧Hid (Below (w.heap.size+1) V0 wr)) (fun _ t4 _=>(N - intOf t4).toNat)
  case atStart=>exact ⟨0,_,_,_,by omega,rfl,rfl,hE,hV1⟩
  case round =>
    obtain ⟨j,a,n,c,hj,rfl,rfl,hr,hb⟩:=hrel
    clear hV0 hE hV1
    by_cases hlt:j < N
    · have hwj:wrap64 (j+1)=j+1:=IntWalk.wrap64_in _ (by omega)
      go_wp2_with fail
      go_loopw [5,7] (fun t5 t7 wr => ∃ (q:Int) (a:Option Addr) (n c:Nat),(0≤q∧q≤M)∧t7 = .int .i64 q∧t5 = .slice a n c∧Hid (Gn.Row (w.heap.size+1) wr (.slice a n c) (25 * j.toNat+q.toNat))∧Hid (Below (w.heap.size+1) V0 wr)) (fun _ t7 _=>(M - intOf t7).toNat)
      case atStart=>exact ⟨0,a,n,c,by omega,rfl,rfl,by simpa using hr,hb⟩
      case round =>
        clear hr hb
        obtain ⟨q,a,n,c,hq,rfl,rfl,hr,hb⟩:=hrel
        have hz:w.heap.size+1≤wr.heap.size:=by have:=hb.out.size;omega
        by_cases hlq:q < M
        · have hwq:wrap64 (q+1)=q+1:=IntWalk.wrap64_in _ (by omega)
          have bK:25 * j.toNat+q.toNat+1≤1000000000:=by omega
          have s0:Tk.Mk:=trivial
          go_wp2_with (first
            | (go_at_call 18
               have _t:=s0
               clear s0
               refine (Gn.dec_any q hq.1 (by omega) wr).mono ?_
               rintro e w2 ⟨t,rfl,ht,hb2⟩
               have hl:=Tk.lead 112 ht
               have hz2:w.heap.size+1≤w2.heap.size:=Nat.le_trans hz hb2.size
               have hrx:=Tk.Row_below (Tk.Row_below hr.out hb2) (Tk.up1 w2 (.cells #[.int .i64 22,.int .i64 0,.int .i64 1,.int .i64 0,.string ((⟨#[112]⟩:ByteArray)++t),.int .i64 0] 106))
               have hb5:Below (w.heap.size+1) V0 (w2.alloc (.cells #[.int .i64 22,.int .i64 0,.int .i64 1,.int .i64 0,.string ((⟨#[112]⟩:ByteArray)++t),.int .i64 0] 106)):=Tk.bl (Tk.bl hb.out hb2 hz) (Tk.up1 w2 _) hz2
               have s3:Tk.Mk:=trivial)
            | (at_builtin
               have _t:=s3
               clear s3
               refine Tk.wp_rows rfl _ _ rfl rfl rfl hrx (Gn.new_one w2 ⟨22,0,1,0,(⟨#[112]⟩:ByteArray)++t,0⟩ hl) (Nat.le_trans hz2 (Tk.up1 w2 _).size) bK ?_
               intro a6 n6 c6 w6 hr6 hn6 hf6 hy6
               clear hn6
               have hb6:Below (w.heap.size+1) V0 w6:=(by have:=hf6 V0 (by omega) (by rw [hs0];exact hb5);rw [hs0] at this;exact this)
               have hr7:Gn.Row (w.heap.size+1) w6 (.slice a6 n6 c6) (25 * j.toNat+(q+1).toNat):=hr6.mono (Nat.le_refl _) (by omega)))
          go_roundw
          case rel=>exact ⟨q+1,a6,n6,c6,by omega,rfl,rfl,hr7,hb6⟩
          case measure=>simp only [intOf];omega
        · have bK:25 * j.toNat+q.toNat+2≤1000000000:=by omega
          have s0:Tk.Mk:=trivial
          go_wp2_with (first
            | (go_at_call 18
               have _t:=s0
               clear s0
               refine (Gn.dec_any j hj.1 (by omega) wr).mono ?_
               rintro e w2 ⟨t,rfl,ht,hb2⟩
               have hl:=Tk.lead 103 ht
               have hz2:w.heap.size+1≤w2.heap.size:=Nat.le_trans hz hb2.size
               have hrx:=Tk.Row_below (Tk.Row_below hr.out hb2) (Tk.up1 w2 (.cells #[.int .i64 21,.int .i64 0,.int .i64 0,.int .i64 0,.string ⟨#[]⟩,.int .i64 0,.int .i64 23,.int .i64 0,.int .i64 0,.int .i64 0,.string ((⟨#[103]⟩:ByteArray)++t),.int .i64 (M+1)] 106))
               have hb5:Below (w.heap.size+1) V0 (w2.alloc (.cells #[.int .i64 21,.int .i64 0,.int .i64 0,.int .i64 0,.string ⟨#[]⟩,.int .i64 0,.int .i64 23,.int .i64 0,.int .i64 0,.int .i64 0,.string ((⟨#[103]⟩:ByteArray)++t),.int .i64 (M+1)] 106)):=Tk.bl (Tk.bl hb.out hb2 hz) (Tk.up1 w2 _) hz2
               have s3:Tk.Mk:=trivial)
            | (at_builtin
               have _t:=s3
               clear s3
               refine Tk.wp_rows rfl _ _ rfl rfl rfl hrx (Tk.new_two w2 ⟨21,0,0,0,⟨#[]⟩,0⟩ ⟨23,0,0,0,(⟨#[103]⟩:ByteArray)++t,M+1⟩ Gn.no_text hl) (Nat.le_trans hz2 (Tk.up1 w2 _).size) bK ?_
               intro a6 n6 c6 w6 hr6 hn6 hf6 hy6
               clear hn6
               have hb6:Below (w.heap.size+1) V0 w6:=(by have:=hf6 V0 (by omega) (by rw [hs0];exact hb5);rw [hs0] at this;exact this)
               have hr7:Gn.Row (w.heap.size+1) w6 (.slice a6 n6 c6) (25 * (j+1).toNat):=hr6.mono (Nat.le_refl _) (by omega)))
          first
            | exact ⟨⟨j+1,a6,n6,c6,by omega,rfl,rfl,hr7,hb6⟩,by simp only [intOf];omega⟩
            | (go_roundw
               case rel=>exact ⟨j+1,a6,n6,c6,by omega,rfl,rfl,hr7,hb6⟩
               case measure=>simp only [intOf];omega)
    · have hz:w.heap.size+1≤wr.heap.size:=by have:=hb.out.size;omega
      have s0:Tk.Mk:=trivial
      go_wp2_with (first
        | (go_at_call 76
           have _t:=s0
           clear s0
           refine (Tk.main_any (Tk.empty_row wr) (by decide) 0).mono ?_
           rintro e w3 ⟨a3,n3,c3,rfl,hn3,hr3,hb3⟩
           have hcell:(w3.alloc (.cells #[.slice a3 n3 c3] 73)).cell? ⟨w3.heap.size,0,none⟩=some (.slice a3 n3 c3):=(by rw [Lib.cell_of_heap (World.alloc_heap_new w3 _)];rfl)
           have hcap:=Tk.Row_cap hr3
           obtain ⟨m3,hm3⟩:∃ m,Hid (n3=m+1):=⟨n3 - 1,(Nat.sub_add_cancel hn3).symm⟩
           have hw3:wrap64 ((n3:Int) - 1)=(m3:Int):=(by have:=hm3.out;have:=Tk.Row_len hr3;rw [IntWalk.wrap64_in _ (by omega)];omega)
           have hmc:m3≤c3:=(by have:=hm3.out;omega)
           have hrm:Gn.Row (w.heap.size+1) (w3.alloc (.cells #[.slice a3 n3 c3] 73)) (.slice a3 m3 c3) 5:=Tk.Row_below (Tk.Row_cut (hr3.mono (Nat.le_trans hz (Tk.up1 wr _).size) (by decide)) m3 (by have:=hm3.out;omega)) (Tk.up1 w3 _)
           have hz3:w.heap.size+1≤w3.heap.size:=Nat.le_trans (Nat.le_trans hz (Tk.up1 wr _).size) hb3.size
           have hro:=Tk.Row_below (Tk.Row_below (Tk.Row_below hr.out (Tk.up1 wr (.cells #[] 106))) hb3) (Tk.up1 w3 (.cells #[.slice a3 n3 c3] 73))
           have hb4:Below (w.heap.size+1) V0 (w3.alloc (.cells #[.slice a3 n3 c3] 73)):=Tk.bl (Tk.bl (Tk.bl hb.out (Tk.up1 wr _) hz) hb3 (Nat.le_trans hz (Tk.up1 wr _).size)) (Tk.up1 w3 _) hz3
           have s1:Tk.Mk:=trivial)
        | (at_builtin
           have _t:=s1
           clear s1
           refine Tk.wp_rows rfl _ _ rfl rfl rfl hro hrm (Nat.le_trans hz3 (Tk.up1 w3 _).size) (by omega) ?_
           intro a6 n6 c6 w6 hr6 hn6 hf6 hy6
           clear hn6
           have hb6:Below (w.heap.size+1) V0 w6:=(by have:=hf6 V0 (by omega) (by rw [hs0];exact hb4);rw [hs0] at this;exact this)
           have hz6:w.heap.size+1≤w6.heap.size:=Nat.le_trans (Nat.le_trans hz3 (Tk.up1 w3 _).size) hy6
           have hrx:=Tk.Row_below hr6 (Tk.up1 w6 (.cells #[.int .i64 24,.int .i64 0,.int .i64 0,.int .i64 0,.string ⟨#[]⟩,.int .i64 (N+1)] 106))
           have hb7:Below (w.heap.size+1) V0 (w6.alloc (.cells #[.int .i64 24,.int .i64 0,.int .i64 0,.int .i64 0,.string ⟨#[]⟩,.int .i64 (N+1)] 106)):=Tk.bl hb6 (Tk.up1 w6 _) hz6
           have s2:Tk.Mk:=trivial)
        | (at_builtin
           have _t:=s2
           clear s2
           refine Tk.wp_rows rfl _ _ rfl rfl rfl hrx (Gn.new_one w6 ⟨24,0,0,0,⟨#[]⟩,N+1⟩ Gn.no_text) (Nat.le_trans hz6 (Tk.up1 w6 _).size) (by omega) ?_
           intro a8 n8 c8 w8 hr8 hn8 hf8 hy8
           have hb8:Below (w.heap.size+1) V0 w8:=(by have:=hf8 V0 (by omega) (by rw [hs0];exact hb7);rw [hs0] at this;exact this)
           have hn1:1≤n8:=(by omega)
           rw [← HV0.out] at hb8
           obtain ⟨x0,x1⟩:=Tk.tree_cell hb8
           clear hn8))
      exact bodyPost_ret (v:=.agg #[.slice a8 n8 c8]) (by simp [results,Tryz.results80,go_sem,x0]) rfl (Tk.tree_end (hr8.mono (Nat.le_refl _) (by omega)) hn1 hb8)
def Tk.WPost (R P K:Nat) (w0 w:World) (e:Ending) (w':World):Prop := ∃ a n c,e = .returned (.agg #[.slice a n c])∧Gn.Row w.heap.size w' (.slice a n c) K∧Gn.Dw R P w0 w'∧Gn.Fw R w w'
theorem Tk.set_fw {R:Nat} {w W:World} {v:Value} (hf:Gn.Fw R (w.alloc (.cells #[.slice none 0 0] 73)) W) (_hR:R < w.heap.size):Gn.Fw R w (W.setCell ⟨w.heap.size,0,none⟩ v):=by
 have h:=(Gn.Fw.of_below (B:=R) (Tk.up1 w (.cells #[.slice none 0 0] 73))).trans hf
 exact ⟨h.os,h.tape,h.output,Nat.le_trans h.size (by simp [World.setCell]),fun k hk hp=>(Gn.set_oth (by omega)).trans (h.keep k hk hp)⟩
theorem Tk.set_dw {R P:Nat} {w w0 W:World} {v:Value} (hd:Gn.Dw R P w0 W) (hR:R < w.heap.size) (hw:w0.heap.size≤w.heap.size):Gn.Dw R P w0 (W.setCell ⟨w.heap.size,0,none⟩ v):=by
 obtain ⟨⟨p,hp,hr⟩,h⟩:=hd
 exact ⟨⟨p,hp,Gn.Rd_keep hr (fun k hk=>Gn.set_oth (by omega))⟩,⟨h.os,h.tape,h.output,Nat.le_trans h.size (by simp [World.setCell]),fun k hk hq=>(Gn.set_oth (by omega)).trans (h.keep k hk hq)⟩⟩
theorem Tk.tree_cellW {R:Nat} {w W:World} (hf:Gn.Fw R (w.alloc (.cells #[.slice none 0 0] 73)) W):W.heap[w.heap.size]? = some (.cells #[.slice none 0 0] 73)∧W.cell? ⟨w.heap.size,0,none⟩=some (.slice none 0 0)∧W.frozen? ⟨w.heap.size,0,none⟩=false:=by
 have hT:W.heap[w.heap.size]? = some (.cells #[.slice none 0 0] 73):=hf.blk (World.alloc_heap_new w _) (by decide)
 exact ⟨hT,by simp [World.cell?,hT],by simp [World.frozen?,hT]⟩
theorem Tk.tree_endW {R P K n c A:Nat} {w w0 W:World} {a:Option Addr} (hr:Gn.Row A W (.slice a n c) K) (hA:w.heap.size≤A) (hd:Gn.Dw R P w0 W) (hf:Gn.Fw R (w.alloc (.cells #[.slice none 0 0] 73)) W) (hR:R < w.heap.size) (hw:w0.heap.size≤w.heap.size):Tk.WPost R P K w0 w (.returned (.agg #[.slice a n c])) (W.setCell ⟨w.heap.size,0,none⟩ (.slice a n c)):=by
 have hT:=(Tk.tree_cellW hf).1
 obtain ⟨l,h1,h2,h3⟩:=hr
 refine ⟨a,n,c,rfl,⟨l,h1,h2,Gn.own_keep (Gn.own_mono h3 hA) (fun k hk _ _=>Gn.set_oth (fun e => ?_))⟩,Tk.set_dw hd hR hw,Tk.set_fw hf hR⟩
 obtain ⟨_,c1,hc1⟩:=Gn.row_type h3 hk
 subst e;rw [hT] at hc1;injection hc1 with hc1;injection hc1 with _ hc1 _;exact absurd hc1 (by decide)
def Tk.rlen (v:Value):Nat:=match v with | .slice _ n _=>n | _=>0
theorem Tk.infoRow : (Tryz.prog.info? 71).map (fun i=>(i.zero,i.size,i.bytes))=some (some (.slice none 0 0),1,24):=by kernel_rfl
def Tk.Rows (A:Nat) (w:World) (a:Option Addr) (n c:Nat):Prop := ∃ vs:List Value,vs.length=n∧w.ownsRow A 71 1 (.slice a n c) n vs∧∀ v ∈ vs,∃ B,Gn.Row B w v 1
theorem Tk.wp_row {w:World} {ops:Array Oper} {rest:List Oper} {o:Oper} {a:Act} {Q:Exit→Act→World→Prop} (hgd:o.guard=none) (s x:Operand)
  (ho:o.op = .call { callee:=.builtin .append,args := #[s,x],argTypes := #[110,110] }) {A B n c n2 c2 b:Nat} {da a2:Option Addr} (h1:Tk.Rows A w da n c) (h2:Gn.Row B w (.slice a2 n2 c2) 1) (hV:w.heap[b]? = some (.cells #[.slice a2 n2 c2] 71)) (hA:A≤w.heap.size) (hn:n≤1000)
  (hs:a.eval s = .slice da n c) (hx:a.eval x = .slice (some ⟨b,0,none⟩) 1 1)
  (h:∀ a' c' w',Tk.Rows A w' a' (n+1) c'→Below A w w'→wpList Tryz.prog ops Q rest (a.put o.dst (.slice a' (n+1) c')) w') :
  wpList Tryz.prog ops Q (o::rest) a w:=by
 obtain ⟨i0,hi0,hy0,hy1,hy2⟩:=info_parts Tk.infoRow
 obtain ⟨vs,e1,h3,h4⟩:=h1
 have hsrc:Gn.Src w (some ⟨b,0,none⟩) 1 [.slice a2 n2 c2]:=fun _=>⟨_,rfl,fun k u hk=>by
  rw [Gn.add_at,Lib.cell_of_heap hV]
  simpa using hk⟩
 refine Gn.wp_append_any hgd s x 110 ho A 71 i0 (.slice none 0 0) 1 24 Tryz.underlying110 hi0 hy0 hy1 hy2 rfl (by decide) _ _ _ hs h3 (some ⟨b,0,none⟩) 1 1 hx [.slice a2 n2 c2] rfl hsrc (by intro u hu;simp at hu;subst hu;rfl) (by unfold maxLen;omega) (by omega) hA ?_
 intro v6 w6 hown6 hg6
 obtain ⟨a7,c7,e7⟩:=Gn.rowLen hown6
 subst e7
 have keep:∀ {v:Value} {B K:Nat},Gn.Row B w v K→Gn.Row B w6 v K:=fun {v B K} hr=>by
  obtain ⟨l,k1,k2,k3⟩:=hr
  refine ⟨l,k1,k2,Gn.own_keep k3 (fun k hk _ hl=>hg6.block k hl (fun e => ?_))⟩
  obtain ⟨_,q1,hq1⟩:=Gn.row_type k3 hk
  obtain ⟨_,q2,hq2⟩:=Gn.row_type h3 e.symm
  rw [hq1] at hq2;injection hq2 with hq2;injection hq2 with _ hq2 _;exact absurd hq2 (by decide)
 refine h a7 c7 w6 ⟨vs++[.slice a2 n2 c2],by simp [e1],hown6,fun v hv => ?_⟩ ⟨hg6.os,hg6.tape,hg6.output,hg6.size,fun k hk=>hg6.block k (Nat.lt_of_lt_of_le hk hA) (fun e => ?_)⟩
 ·rcases List.mem_append.1 hv with hv | hv
  ·obtain ⟨B',hB'⟩:=h4 v hv;exact ⟨B',keep hB'⟩
  ·rw [List.mem_singleton.1 hv];exact ⟨B,keep h2⟩
 ·have:=(Gn.row_type h3 e.symm).1.1
  omega
theorem Tk.fw_on {R A:Nat} {V w w':World} (h:Gn.Fw R V w) (hb:Below A w w') (hA:V.heap.size≤A):Gn.Fw R V w':=⟨hb.os.trans h.os,hb.tape.trans h.tape,hb.output.trans h.output,Nat.le_trans h.size hb.size,fun k hk hp=>(hb.block k (Nat.lt_of_lt_of_le hk hA)).trans (h.keep k hk hp)⟩
theorem Tk.dw_on {R P A:Nat} {w0 w w':World} (h:Gn.Dw R P w0 w) (hb:Below A w w') (hR:R < A) (hw:w0.heap.size≤A):Gn.Dw R P w0 w':=by
 obtain ⟨⟨p,hp,hr⟩,hf⟩:=h
 exact ⟨⟨p,hp,Gn.Rd_keep hr (fun k hk=>hb.block k (by omega))⟩,Tk.fw_on hf hb hw⟩
theorem Tk.Rows.below {A n c:Nat} {w w':World} {a:Option Addr} (h:Tk.Rows A w a n c) (hb:Below w.heap.size w w'):Tk.Rows A w' a n c:=by
 obtain ⟨vs,h1,h2,h3⟩:=h
 exact ⟨vs,h1,Gn.own_keep h2 (fun k _ _ hl=>hb.block k hl),fun v hv=>by obtain ⟨B,hB⟩:=h3 v hv;exact ⟨B,Tk.Row_below hB hb⟩⟩
theorem Tk.Rows.empty (w:World):Tk.Rows w.heap.size (w.alloc (.cells #[] 71)) (some ⟨w.heap.size,0,none⟩) 0 0 :=
 ⟨[],rfl,⟨rfl,.inr ⟨w.heap.size,0,#[],rfl,Nat.le_refl _,(MapKept.heap_alloc w _).1,Nat.le_refl _,Nat.zero_le _,rfl,rfl⟩⟩,fun _ hv=>absurd hv List.not_mem_nil⟩
theorem Tk.over_rows (d:Mill.Nd) (hd:d.text.size≤100) {A n c:Nat} {w:World} {a:Option Addr} (h:Tk.Rows A w a n c) (hn:n≤20) :
  Calls Tryz.prog 77 #[.agg #[.int .i64 d.kind,.int .i64 d.op,.int .i64 d.type,.int .i64 d.n,.string d.text,.int .i64 d.kids],.slice a n c] w (Gn.RPost 21 w):=by
 obtain ⟨vs,h1,h2,h3⟩:=h
 have:=Gn.over_of d hd vs 1 a c w (fun i v hi=>by
  have hz:0 < vs.length:=by
   rcases Nat.eq_zero_or_pos vs.length with h0 | h0
   ·rw [List.eq_nil_of_length_eq_zero h0] at hi;simp at hi
   ·exact h0
  rcases h2.2 with ⟨e,h0⟩ | ⟨g,cap,cur,e,_⟩
  ·omega
  ·injection e with e1 e2 e3
   refine ⟨g,e1, ?_⟩
   exact Gn.own_cells h2 (by rw [e1];rfl) i v hi) h3 (by omega) (by omega)
 rw [h1] at this
 unfold Mill.ndV at this
 exact this.mono fun e w' ⟨a,m,c,k1,k2,k3⟩=>⟨a,m,c,k1,k2.mono (Nat.le_refl _) (by omega),k3⟩
end Go.Proofs.YtfoimmnlojjfbaaGreatDoor
