import Derived.Test.YtkikhpppkpelfaaGreatKGnD
import Derived.Test.YtkikhpppkpelfaaGreatKPriV
set_option maxRecDepth 100000
set_option maxHeartbeats 4000000
namespace Go.Proofs.YtkikhpppkpelfaaGreat
open Go.RowKit
theorem Gn.tx_le : ∀ (ns:List Mill.Nd),(∀ d ∈ ns,d.text.size≤100)→Pr.tx ns≤100 * ns.length
  | [],_=>by simp [Pr.tx]
  | d::r,h=>by
    have h1:=Gn.tx_le r (fun x hx=>h x (List.mem_cons_of_mem _ hx))
    have h2:=h d (List.mem_cons_self ..)
    simp only [Pr.tx,List.map_cons,List.sum_cons,List.length_cons] at h1 ⊢
    omega
theorem Gn.print_le (ns:List Mill.Nd):(Pr.printL ns).size≤12000:=by
  unfold Pr.printL
  split
  · split
    · split
      · rename_i h;show (Pr.progL _).toArray.size≤12000;simpa using h
      · decide
    · decide
  · decide
theorem Gn.print_any {A K:Nat} {w:World} {a:Option Addr} {n c:Nat} (h:Gn.Row A w (.slice a n c) K) :
    Calls Tryz.prog 42 #[.agg #[.slice a n c]] w fun e w' => ∃ t:ByteArray,e = .returned (.string t)∧t.size≤12000∧Below w.heap.size w w':=by
  obtain ⟨l,h1,h2,h3⟩:=h
  refine (Pr.specPrint_any l _ w (Mill.nodesAt_own h3) (fun hv => ?_) (fun d hd=>Nat.le_trans (h2 d hd) (by decide))).mono ?_
  · obtain ⟨K,o,t,ts,_,_,_,_,_,k6,_⟩:=Pr.valid_gives l hv
    have:=Gn.tx_le l h2
    omega
  · rintro e w' ⟨he,hb⟩
    exact ⟨_,he,Gn.print_le l,hb⟩
theorem Gn.Fw.of_but {R p:Nat} {w w':World} (hr:Mill.Rd w R p) (hb:Mill.But R w w'):Gn.Fw R w w':=by
  obtain ⟨cur,hR⟩:=Gn.Rd_type hr
  exact ⟨hb.os,hb.tape,hb.output,hb.size,fun k hk hp=>hb.block k hk (fun e=>by
    subst e
    rcases hp with hp | hp
    · omega
    · exact (hp _ _ _ hR).1 rfl)⟩
def Gn.Dw (R P:Nat) (w w':World):Prop:=(∃ p,p≤P∧Mill.Rd w' R p)∧Gn.Fw R w w'
theorem Gn.Dw.of_dr {R P p k:Nat} {w w1 w2:World} (h:Gn.Dw R P w w1) (hr:Mill.Rd w1 R p) (hp:p≤P) (hd:Mill.Dr R p k w1 w2):Gn.Dw R (P+k) w w2:=by
  obtain ⟨q,a1,a2,hR⟩:=hd.at_
  exact ⟨⟨q,by omega,hR⟩,h.2.trans (Gn.Fw.of_but hr hd.but)⟩
theorem Gn.Dw.below {R P:Nat} {w w1 w2:World} (h:Gn.Dw R P w w1) (hb:Below w1.heap.size w1 w2):Gn.Dw R P w w2:=by
  obtain ⟨⟨p,hp,hr⟩,hf⟩:=h
  exact ⟨⟨p,hp,hr.below hb⟩,hf.trans (Gn.Fw.of_below hb)⟩
theorem Gn.Dw.mono {R P P':Nat} {w w1:World} (h:Gn.Dw R P w w1) (hP:P≤P'):Gn.Dw R P' w w1:=by
  obtain ⟨⟨p,hp,hr⟩,hf⟩:=h
  exact ⟨⟨p,by omega,hr⟩,hf⟩
theorem Gn.Dw.refl {R p P:Nat} {w:World} (hr:Mill.Rd w R p) (hp:p≤P):Gn.Dw R P w w:=⟨⟨p,hp,hr⟩,Gn.Fw.refl R w⟩
theorem Gn.Dw.lt {R P:Nat} {w w1:World} (h:Gn.Dw R P w w1):R < w1.heap.size:=by
  obtain ⟨⟨p,_,hr⟩,_⟩:=h
  exact hr.lt
theorem Gn.pickW {R P:Nat} {w w1:World} (n:Int) (h:Gn.Dw R P w w1) (hP:P≤900000000) (h1:1≤n) (h2:n≤1048576) :
    Calls Tryz.prog 13 #[.pointer (some ⟨R,0,none⟩),.int .i64 n] w1 fun e w' => ∃ v:Int,e = .returned (.int .i64 v)∧(0≤v∧v < n)∧Gn.Dw R (P+1) w w'∧Gn.Fw R w1 w':=by
  obtain ⟨⟨p,hp,hr⟩,hf⟩:=h
  refine (pick_D n (Gn.Dr0 hr) (by omega) h1 h2).mono ?_
  rintro e w' ⟨v,he,hv,hD,hB⟩
  exact ⟨v,he,by omega,(Gn.Dw.of_dr ⟨⟨p,hp,hr⟩,hf⟩ hr hp hD).mono (by omega),Gn.Fw.of_but hr hB⟩
theorem Gn.textW {R P:Nat} {w w1:World} (h:Gn.Dw R P w w1) (hP:P≤900000000) :
    Calls Tryz.prog 16 #[.pointer (some ⟨R,0,none⟩)] w1 fun e w' => ∃ t:ByteArray,e = .returned (.string t)∧t.size≤8∧Gn.Dw R (P+8) w w'∧Gn.Fw R w1 w':=by
  obtain ⟨⟨p,hp,hr⟩,hf⟩:=h
  refine (text_D (Gn.Dr0 hr) (by omega)).mono ?_
  rintro e w' ⟨t,he,ht,hD,hB⟩
  exact ⟨t,he,ht,(Gn.Dw.of_dr ⟨⟨p,hp,hr⟩,hf⟩ hr hp hD).mono (by omega),Gn.Fw.of_but hr hB⟩
theorem Gn.pathW {R P:Nat} {w w1:World} (h:Gn.Dw R P w w1) (hP:P≤900000000) :
    Calls Tryz.prog 15 #[.pointer (some ⟨R,0,none⟩)] w1 fun e w' => ∃ t:ByteArray,e = .returned (.string t)∧t.size≤5∧Gn.Dw R (P+1) w w'∧Gn.Fw R w1 w':=by
  obtain ⟨⟨p,hp,hr⟩,hf⟩:=h
  refine (path_D (Gn.Dr0 hr) (by omega)).mono ?_
  rintro e w' ⟨t,he,ht,hD,hB⟩
  exact ⟨t,he,ht,(Gn.Dw.of_dr ⟨⟨p,hp,hr⟩,hf⟩ hr hp hD).mono (by omega),Gn.Fw.of_but hr hB⟩
theorem Gn.specialW {R P:Nat} {w w1:World} (h:Gn.Dw R P w w1) (hP:P≤900000000) :
    Calls Tryz.prog 41 #[.pointer (some ⟨R,0,none⟩)] w1 fun e w' => ∃ t:ByteArray,e = .returned (.string t)∧t.size≤20000∧Gn.Dw R (P+3) w w'∧Gn.Fw R w1 w':=by
  obtain ⟨⟨p,hp,hr⟩,hf⟩:=h
  refine (Gn.special_any hr (by omega)).mono ?_
  rintro e w' ⟨t,he,ht,hD⟩
  exact ⟨t,he,ht,(Gn.Dw.of_dr ⟨⟨p,hp,hr⟩,hf⟩ hr hp hD).mono (by omega),Gn.Fw.of_but hr hD.but⟩
theorem Gn.programW {R P:Nat} {w w1:World} (h:Gn.Dw R P w w1) (hP:P≤300000000) (size:Int) (hs:0≤size∧size≤P) :
    Calls Tryz.prog 43 #[.pointer (some ⟨R,0,none⟩),.int .i64 size] w1 fun e w' => ∃ a n c,e = .returned (.agg #[.slice a n c])∧Gn.Row w1.heap.size w' (.slice a n c) 300000000∧Gn.Dw R (P+200000000) w w'∧Gn.Fw R w1 w':=by
  obtain ⟨⟨p,hp,hr⟩,hf⟩:=h
  refine (Gn.program_any hr hp hP size hs).mono ?_
  rintro e w' ⟨a,n,c,p',he,hrow,hp',hr',hf'⟩
  exact ⟨a,n,c,he,hrow,⟨⟨p',hp',hr'⟩,hf.trans hf'⟩,hf'⟩
theorem Gn.tool_b (P:Nat):P+1≤P+200000010∧P+1+3≤P+200000010∧P+1+8≤P+200000010∧P+1+200000000≤P+200000010:=by refine ⟨?_, ?_, ?_, ?_⟩ <;> omega
theorem Gn.k6 {k:Int} (_h:0≤k∧k < 6):(k=0∧Gn.Mk)∨(k=1∧Gn.Mk)∨(k=2∧Gn.Mk)∨((¬ k=0∧¬ k=1∧¬ k=2)∧Gn.Mk):=by
  simp only [Gn.Mk,and_true];omega
theorem Gn.tool_any {R P:Nat} {w w0:World} (h:Gn.Dw R P w0 w) (hP:P≤299999000) (hP2:30≤P) :
    Calls Tryz.prog 29 #[.pointer (some ⟨R,0,none⟩)] w fun e w' => ∃ t:ByteArray,e = .returned (.string t)∧t.size≤20000∧Gn.Dw R (P+200000010) w0 w'∧Gn.Fw R w w':=by
  have b0:P≤900000000:=by omega
  have b1:P+1≤900000000:=by omega
  have b2:P+1≤300000000:=by omega
  have b3:(0:Int)≤30∧(30:Int)≤((P+1:Nat):Int):=by omega
  obtain ⟨p0,p1,p2,p3⟩:=Gn.tool_b P
  have t0:Gn.Mk:=trivial
  go_enter Tryz.func29,Tryz.ntmps29
  go_wp2_with (first
    | (go_at_call 13
       have _t:=t0
       clear t0
       refine (Gn.pickW 6 h b0 (by decide) (by decide)).mono ?_
       rintro e w1 ⟨k,rfl,hk,h1,hf1⟩
       rcases Gn.k6 hk with ⟨rfl,m0⟩ | ⟨rfl,m1⟩ | ⟨rfl,m2⟩ | ⟨⟨n0,n1,n2⟩,m3⟩)
    | (go_at_call 41
       have _t:=m1
       refine (Gn.specialW h1 b1).mono ?_
       rintro e w2 ⟨t,rfl,ht,h2,hf2⟩)
    | (go_at_call 16
       have _t:=m2
       refine (Gn.textW h1 b1).mono ?_
       rintro e w2 ⟨t,rfl,ht,h2,hf2⟩)
    | (go_at_call 43
       have _t:=m3
       refine (Gn.programW h1 b2 30 b3).mono ?_
       rintro e w2 ⟨a,n,c,rfl,hrow,h2,hf2⟩)
    | (go_at_call 42
       have _t:=m3
       refine (Gn.print_any hrow).mono ?_
       rintro e w3 ⟨t,rfl,ht,hb3⟩))
  all_goals first
    | (go_ret;exact ⟨_,rfl,by decide,h1.mono p0,hf1⟩)
    | (go_ret;exact ⟨t,rfl,Nat.le_trans ht (by decide),h2.mono p1,hf1.trans hf2⟩)
    | (go_ret;exact ⟨t,rfl,Nat.le_trans ht (by decide),h2.mono p2,hf1.trans hf2⟩)
    | (go_ret;exact ⟨_,rfl,by decide,(h2.below hb3).mono p3,(hf1.trans hf2).trans (Gn.Fw.of_below hb3)⟩)
    | (go_ret;exact ⟨t,rfl,Nat.le_trans ht (by decide),(h2.below hb3).mono p3,(hf1.trans hf2).trans (Gn.Fw.of_below hb3)⟩)
end Go.Proofs.YtkikhpppkpelfaaGreat
