import Derived.Test.YtfoimmnlojjfbaaGreatDoorKGnC
import Derived.Test.YtfoimmnlojjfbaaGreatDoorKPriV
namespace Go.Proofs.YtfoimmnlojjfbaaGreatDoor
open Go.RowKit
theorem Gn.Dr0 {w:World} {R p:Nat} (h:Mill.Rd w R p):Mill.Dr R p 0 w w:=⟨⟨p,Nat.le_refl _,Nat.le_refl _,h⟩,Mill.But.refl R w⟩
theorem Gn.tx_le : ∀ (ns:List Mill.Nd),(∀ d ∈ ns,d.text.size≤100)→Pr.tx ns≤100 * ns.length
 | [],_=>by simp [Pr.tx]
 | d::r,h=>by
  have h1:=Gn.tx_le r (fun x hx=>h x (List.mem_cons_of_mem _ hx))
  have h2:=h d (List.mem_cons_self ..)
  simp only [Pr.tx,List.map_cons,List.sum_cons,List.length_cons] at h1 ⊢
  omega
theorem Gn.print_le (ns:List Mill.Nd):(Pr.printL ns).size≤12000:=by
 unfold Pr.printL
 split
 ·split
  ·split
   ·rename_i h;show (Pr.progL _).toArray.size≤12000;simpa using h
   ·decide
  ·decide
 ·decide
theorem Gn.print_any {A K:Nat} {w:World} {a:Option Addr} {n c:Nat} (h:Gn.Row A w (.slice a n c) K) :
  Calls Tryz.prog 42 #[.agg #[.slice a n c]] w fun e w' => ∃ t:ByteArray,e = .returned (.string t)∧t.size≤12000∧Below w.heap.size w w':=by
 obtain ⟨l,h1,h2,h3⟩:=h
 refine (Pr.specPrint_any l _ w (Mill.nodesAt_own h3) (fun hv => ?_) (fun d hd=>Nat.le_trans (h2 d hd) (by decide))).mono ?_
 ·obtain ⟨K,o,t,ts,_,_,_,_,_,k6,_⟩:=Pr.valid_gives l hv
  have:=Gn.tx_le l h2
  omega
 ·rintro e w' ⟨he,hb⟩
  exact ⟨_,he,Gn.print_le l,hb⟩
theorem Gn.Fw.of_but {R p:Nat} {w w':World} (hr:Mill.Rd w R p) (hb:Mill.But R w w'):Gn.Fw R w w':=by
 obtain ⟨cur,hR⟩:=Gn.Rd_type hr
 exact ⟨hb.os,hb.tape,hb.output,hb.size,fun k hk hp=>hb.block k hk (fun e=>by
  subst e
  rcases hp with hp | hp
  ·omega
  ·exact (hp _ _ _ hR).1 rfl)⟩
def Gn.Dw (R P:Nat) (w w':World):Prop:=(∃ p,p≤P∧Mill.Rd w' R p)∧Gn.Fw R w w'
theorem Gn.Dw.of_dr {R P p k:Nat} {w w1 w2:World} (h:Gn.Dw R P w w1) (hr:Mill.Rd w1 R p) (hp:p≤P) (hd:Mill.Dr R p k w1 w2):Gn.Dw R (P+k) w w2:=by
 obtain ⟨q,a1,a2,hR⟩:=hd.at_
 exact ⟨⟨q,by omega,hR⟩,h.2.trans (Gn.Fw.of_but hr hd.but)⟩
theorem Gn.Dw.below {R P:Nat} {w w1 w2:World} (h:Gn.Dw R P w w1) (hb:Below w1.heap.size w1 w2):Gn.Dw R P w w2:=by
 obtain ⟨⟨p,hp,hr⟩,hf⟩:=h
 exact ⟨⟨p,hp,hr.below hb⟩,hf.trans (Gn.Fw.of_below hb)⟩
theorem Gn.Dw.mono {R P P':Nat} {w w1:World} (h:Gn.Dw R P w w1) (hP:P≤P'):Gn.Dw R P' w w1:=by
 obtain ⟨⟨p,hp,hr⟩,hf⟩:=h
 exact ⟨⟨p,by omega,hr⟩,hf⟩
theorem Gn.Dw.refl {R p P:Nat} {w:World} (hr:Mill.Rd w R p) (hp:p≤P):Gn.Dw R P w w:=⟨⟨p,hp,hr⟩,Gn.Fw.refl R w⟩
theorem Gn.Dw.lt {R P:Nat} {w w1:World} (h:Gn.Dw R P w w1):R < w1.heap.size:=by
 obtain ⟨⟨p,_,hr⟩,_⟩:=h
 exact hr.lt
theorem Gn.pickW {R P:Nat} {w w1:World} (n:Int) (h:Gn.Dw R P w w1) (hP:P≤900000000) (h1:1≤n) (h2:n≤1048576) :
  Calls Tryz.prog 8 #[.pointer (some ⟨R,0,none⟩),.int .i64 n] w1 fun e w' => ∃ v:Int,e = .returned (.int .i64 v)∧(0≤v∧v < n)∧Gn.Dw R (P+1) w w'∧Gn.Fw R w1 w':=by
 obtain ⟨⟨p,hp,hr⟩,hf⟩:=h
 refine (pick_D n (Gn.Dr0 hr) (by omega) h1 h2).mono ?_
 rintro e w' ⟨v,he,hv,hD,hB⟩
 exact ⟨v,he,by omega,(Gn.Dw.of_dr ⟨⟨p,hp,hr⟩,hf⟩ hr hp hD).mono (by omega),Gn.Fw.of_but hr hB⟩
theorem Gn.pickWN {R P:Nat} {w w1:World} (n:Int) (h:Gn.Dw R P w w1) (hP:P≤900000000) (h1:1≤n) (h2:n≤1048576) :
  Calls Tryz.prog 8 #[.pointer (some ⟨R,0,none⟩),.int .i64 n] w1 fun e w' => ∃ v:Nat,e = .returned (.int .i64 (v:Int))∧(v:Int) < n∧Gn.Dw R (P+1) w w'∧Gn.Fw R w1 w':=by
 obtain ⟨⟨p,hp,hr⟩,hf⟩:=h
 refine (pick_D n (Gn.Dr0 hr) (by omega) h1 h2).mono ?_
 rintro e w' ⟨v,he,hv,hD,hB⟩
 exact ⟨v,he,hv,(Gn.Dw.of_dr ⟨⟨p,hp,hr⟩,hf⟩ hr hp hD).mono (by omega),Gn.Fw.of_but hr hB⟩
theorem Gn.programW {R P:Nat} {w w1:World} (h:Gn.Dw R P w w1) (hP:P≤300000000) (size:Int) (hs:0≤size∧size≤P) :
  Calls Tryz.prog 64 #[.pointer (some ⟨R,0,none⟩),.int .i64 size] w1 fun e w' => ∃ a n c,e = .returned (.agg #[.slice a n c])∧Gn.Row w1.heap.size w' (.slice a n c) 300000000∧Gn.Dw R (P+200000000) w w'∧Gn.Fw R w1 w':=by
 obtain ⟨⟨p,hp,hr⟩,hf⟩:=h
 refine (Gn.program_any hr hp hP size hs).mono ?_
 rintro e w' ⟨a,n,c,p',he,hrow,hp',hr',hf'⟩
 exact ⟨a,n,c,he,hrow,⟨⟨p',hp',hr'⟩,hf.trans hf'⟩,hf'⟩
end Go.Proofs.YtfoimmnlojjfbaaGreatDoor
