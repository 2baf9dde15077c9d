import Derived.Test.YtfoimmnlojjfbaaGreatDoorKTkP
import Derived.Test.YtfoimmnlojjfbaaGreatDoorKTkR
set_option maxRecDepth 100000
set_option maxHeartbeats 4000000
namespace Go.Proofs.YtfoimmnlojjfbaaGreatDoor
open Go.RowKit
theorem Tk.k20 {k:Int} (h:0≤k∧k < 20):(k=0∧Tk.Mk)∨(k=1∧Tk.Mk)∨((¬ k=0∧¬ k=1∧k < 8)∧Tk.Mk)∨((¬ k=0∧¬ k=1∧¬ k < 8)∧Tk.Mk):=by
 simp only [Tk.Mk,and_true];omega
theorem Tk.quoteW (s:ByteArray) (hs:s.size≤200000) (w:World):Calls Tryz.prog 10 #[.string s] w fun e w' => ∃ t:ByteArray,e = .returned (.string t)∧t.size≤1000000∧Below w.heap.size w w':=by
 refine (Pr.l1Quote_any s (by omega) w).mono ?_
 rintro e w' ⟨he,hb⟩
 exact ⟨_,he,by have:=Pr.quote_size s;omega,hb⟩
theorem Tk.pieceW {R P:Nat} {w w1:World} (h:Gn.Dw R P w w1) (hP:P≤900000000) :
  Calls Tryz.prog 12 #[.pointer (some ⟨R,0,none⟩)] w1 fun e w' => ∃ t:ByteArray,e = .returned (.string t)∧t.size≤100∧Gn.Dw R (P+10) w w'∧Gn.Fw R w1 w':=by
 obtain ⟨⟨p,hp,hr⟩,hf⟩:=h
 refine (Tk.piece_D (Gn.Dr0 hr) (by omega)).mono ?_
 rintro e w' ⟨t,he,ht,hD,hB⟩
 exact ⟨t,he,ht,(Gn.Dw.of_dr ⟨⟨p,hp,hr⟩,hf⟩ hr hp hD).mono (by omega),Gn.Fw.of_but hr hB⟩
theorem Tk.bytes_up {w:World} {R R' n:Nat} {v:Value} (h:Mill.Bytes w R v n) (hR:R≤R'):Mill.Bytes w R' v n:=by
 rcases h with e | ⟨b,off,cap,h1,h2,h3⟩
 ·exact .inl e
 ·exact .inr ⟨b,off,cap,h1,Nat.lt_of_lt_of_le h2 hR,h3⟩
theorem Tk.app2 {a b:ByteArray} {A B C:Nat} (ha:a.size≤A) (hb:b.size≤B) (hC:A+B≤C):(a++b).size≤C:=by
 rw [ByteArray.size_append];omega
def Tk.ParseIs : Prop := ∀ (w:World) (v:Value) (n:Nat),Mill.Bytes w w.heap.size v n→(∀ a m c,v = .slice a m c→m≤c)→n≤1048576→Calls Tryz.prog 11 #[v] w fun e w' => ∃ t:ByteArray,e = .returned (.string t)∧t.size≤3000000∧Below w.heap.size w w'
theorem Tk.p35 (p:ByteArray):(p.toList=[35]∧Tk.Mk)∨(¬ p.toList=[35]∧Tk.Mk):=by
 simp only [Tk.Mk,and_true];exact Classical.em _
theorem Tk.drawScan0 (hQ:Tk.ParseIs) (w:World) (v:Value) (n:Nat) (hB:Mill.Bytes w w.heap.size v n) (hc:∀ a m c,v = .slice a m c→m≤c) (hn:n≤1048576) :
    Calls Tryz.prog 4 #[v] w fun e w' => ∃ t:ByteArray,e = .returned (.string t)∧t.size≤3000000∧Below w.heap.size w w':=by
  have HO:Hid (Calls Tryz.prog 7 #[v] w fun e w'=>e = .returned (.pointer (some ⟨w.heap.size,0,none⟩))∧Mill.Rd w' w.heap.size 0∧Below w.heap.size w w'):=l1Open_any w v n hB hc hn
  have HP:Hid (∀ w2:World,Below w.heap.size w w2→Calls Tryz.prog 11 #[v] w2 fun e w' => ∃ t:ByteArray,e = .returned (.string t)∧t.size≤3000000∧Below w2.heap.size w2 w'):=fun w2 hb=>hQ w2 v n (Tk.bytes_up (hB.below (Nat.le_refl _) hb) hb.size) hc hn
  clear hQ hB hc
  have t0:Tk.Mk:=trivial
  go_enter Tryz.func4,Tryz.ntmps4
  go_wp2_with (first
    | (go_at_call 7
       refine HO.out.mono ?_
       rintro e w1 ⟨rfl,hr1,hb1⟩
       have hd1:Gn.Dw w.heap.size 1000 w1 w1:=Gn.Dw.refl hr1 (by omega))
    | (go_at_call 8
       have _t:=t0
       clear t0
       refine (Gn.pickW 20 hd1 (by decide) (by decide) (by decide)).mono ?_
       rintro e w2 ⟨k,rfl,hk,hd2,hf2⟩
       have hb2:=Tk.below_fw hb1 hd2.2
       rcases Tk.k20 hk with ⟨rfl,m0⟩ | ⟨rfl,m1⟩ | ⟨⟨n0,n1,n2⟩,m2⟩ | ⟨⟨n0,n1,n2⟩,m3⟩)
    | (go_at_call 9
       have _t:=m0
       clear m0
       refine (Tk.many_i _ (by decide) 6000 (by decide) w2).mono ?_
       rintro e w3 ⟨t3,rfl,ht3,hb3⟩
       have hd3:=hd2.below hb3
       have m0a:Tk.Mk:=trivial)
    | (go_at_call 8
       have _t:=m0a
       clear m0a
       refine (Gn.pickW 2 hd3 (by decide) (by decide) (by decide)).mono ?_
       rintro e w4 ⟨x,rfl,hx,hd4,hf4⟩
       have m0b:Tk.Mk:=trivial)
    | (go_at_call 9
       have _t:=m0b
       clear m0b
       refine (Tk.many_i _ (by decide) x (by omega) w4).mono ?_
       rintro e w5 ⟨t5,rfl,ht5,hb5⟩
       have r0:Tk.Mk:=trivial)
    | (go_at_call 8
       have _t:=m1
       clear m1
       refine (Gn.pickW 2 hd2 (by decide) (by decide) (by decide)).mono ?_
       rintro e w3 ⟨x,rfl,hx,hd3,hf3⟩
       have hwx:wrap64 (3000+x)=3000+x:=IntWalk.wrap64_in _ (by omega)
       have m1a:Tk.Mk:=trivial)
    | (go_at_call 9
       have _t:=m1a
       clear m1a
       refine (Tk.many_i _ (by decide) (3000+x) (by omega) w3).mono ?_
       rintro e w4 ⟨t4,rfl,ht4,hb4⟩
       have m1b:Tk.Mk:=trivial)
    | (go_at_call 10
       have _t:=m1b
       clear m1b
       refine (Tk.quoteW t4 ht4 w4).mono ?_
       rintro e w5 ⟨t5,rfl,ht5,hb5⟩
       have r1:Tk.Mk:=trivial)
    | (go_at_call 11
       have _t:=m2
       clear m2
       refine (HP.out w2 hb2).mono ?_
       rintro e w3 ⟨t3,rfl,ht3,hb3⟩
       have r2:Tk.Mk:=trivial)
    | (go_at_call 8
       have _t:=m3
       clear m3
       refine (Gn.pickWN 30 hd2 (by decide) (by decide) (by decide)).mono ?_
       rintro e w3 ⟨x,rfl,hx,hd3,hf3⟩
       have r3:Tk.Mk:=trivial))
  all_goals first
    | (have _t:=r0;go_ret;exact ⟨_,rfl,Tk.app2 ht3 ht5 (by decide),Tk.below_fw hb1 (hd4.2.trans (Gn.Fw.of_below hb5))⟩)
    | (have _t:=r1;go_ret;exact ⟨t5,rfl,Nat.le_trans ht5 (by decide),Tk.below_fw hb1 ((hd3.2.trans (Gn.Fw.of_below hb4)).trans (Gn.Fw.of_below hb5))⟩)
    | (have _t:=r2;go_ret;exact ⟨t3,rfl,ht3,hb2.trans (hb3.mono hb2.size)⟩)
    | skip
  have hx30:x≤29:=by omega
  clear hx
  go_loopw [5,6] (fun o t wr => ∃ (z:ByteArray) (m:Nat),o = .string z∧t = .int .i64 (m:Int)∧m≤x∧z.size≤(x - m) * 101∧Gn.Dw w.heap.size (2000+(x - m) * 13) w1 wr) (fun _ t _=>(intOf t).toNat)
  case atStart=>exact ⟨⟨#[]⟩,x,rfl,rfl,Nat.le_refl _,by simp [ByteArray.size],hd3.mono (by omega)⟩
  case round =>
    obtain ⟨z,m,rfl,rfl,hm,hz,hdr⟩:=hrel
    by_cases h0:0 < m
    · have hz2:z.size≤3000:=by
        have:(x - m) * 101≤29 * 101:=Nat.mul_le_mul_right _ (by omega)
        omega
      have hpl:2000+(x - m) * 13≤100000:=by
        have:(x - m) * 13≤29 * 13:=Nat.mul_le_mul_right _ (by omega)
        omega
      obtain ⟨q,hq⟩:∃ q,2000+(x - m) * 13=q:=⟨_,rfl⟩
      rw [hq] at hdr hpl
      have hzl:z.size≤(x - m) * 101:=hz
      clear hz
      have t0:Tk.Mk:=trivial
      go_wp2_with (first
        | (go_at_call 12
           have _t:=t0
           clear t0
           refine (Tk.pieceW hdr (by omega)).mono ?_
           rintro e w4 ⟨p,rfl,hp,hd4,hf4⟩
           rcases Tk.p35 p with ⟨hpe,m1⟩ | ⟨hpe,m2⟩)
        | (go_at_call 8
           have _t:=m1
           clear m1
           refine (Gn.pickW 2 hd4 (by omega) (by decide) (by decide)).mono ?_
           rintro e w5 ⟨y,rfl,hy,hd5,hf5⟩
           rcases Tk.x0 y with ⟨rfl,m3⟩ | ⟨hy0,m4⟩)
        | (go_at_call 8
           have _t:=m3
           clear m3
           refine (Gn.pickW 3 hd5 (by omega) (by decide) (by decide)).mono ?_
           rintro e w6 ⟨y,rfl,hy2,hd6,hf6⟩
           obtain ⟨zp,hzp⟩:∃ Z:ByteArray,z++(⟨#[120]⟩:ByteArray)=Z:=⟨_,rfl⟩
           have hzs:zp.size≤z.size+100:=(by rw [← hzp];exact Tk.app2 (Nat.le_refl _) (show (⟨#[120]⟩:ByteArray).size≤100 by decide) (Nat.le_refl _))
           have HD6:=hd6.mono (P':=q+13) (by omega)
           have m6:Tk.Mk:=trivial)
        | (go_at_call 8
           have _t:=m4
           clear m4
           refine (Gn.pickW 3 hd5 (by omega) (by decide) (by decide)).mono ?_
           rintro e w6 ⟨y,rfl,hy2,hd6,hf6⟩
           obtain ⟨zp,hzp⟩:∃ Z:ByteArray,z++p=Z:=⟨_,rfl⟩
           have hzs:zp.size≤z.size+100:=(by rw [← hzp];exact Tk.app2 (Nat.le_refl _) hp (Nat.le_refl _))
           have HD6:=hd6.mono (P':=q+13) (by omega)
           have m6:Tk.Mk:=trivial)
        | (go_at_call 8
           have _t:=m2
           clear m2
           refine (Gn.pickW 3 hd4 (by omega) (by decide) (by decide)).mono ?_
           rintro e w6 ⟨y,rfl,hy2,hd6,hf6⟩
           obtain ⟨zp,hzp⟩:∃ Z:ByteArray,z++p=Z:=⟨_,rfl⟩
           have hzs:zp.size≤z.size+100:=(by rw [← hzp];exact Tk.app2 (Nat.le_refl _) hp (Nat.le_refl _))
           have HD6:=hd6.mono (P':=q+13) (by omega)
           have m6:Tk.Mk:=trivial))
      all_goals
        have _t:=m6
        have hzs2:(zp++(⟨#[32]⟩:ByteArray)).size≤z.size+101:=Tk.app2 hzs (show (⟨#[32]⟩:ByteArray).size≤1 by decide) (by omega)
        have e1:(x - (m - 1)) * 101=(x - m) * 101+101:=by
          rw [show x - (m - 1)=x - m+1 by omega,Nat.add_mul]
        have e2:2000+(x - (m - 1)) * 13=q+13:=by
          rw [show x - (m - 1)=x - m+1 by omega,Nat.add_mul];omega
        first
          | (go_roundw
             case rel=>exact ⟨zp,m - 1,rfl,by go_num,by omega,by omega,by rw [e2];exact HD6⟩
             case measure=>simp [intOf];omega)
          | (go_roundw
             case rel=>exact ⟨zp++(⟨#[32]⟩:ByteArray),m - 1,rfl,by go_num,by omega,by omega,by rw [e2];exact HD6⟩
             case measure=>simp [intOf];omega)
          | trace_state
    · have hm0:m=0:=by omega
      subst hm0
      go_wp2_with fail
      go_ret
      exact ⟨z,rfl,by have:(x - 0) * 101≤29 * 101:=Nat.mul_le_mul_right _ (by omega);omega,Tk.below_fw hb1 hdr.2⟩
theorem Tk.drawScan (w:World) (v:Value) (n:Nat) (hB:Mill.Bytes w w.heap.size v n) (hc:∀ a m c,v = .slice a m c→m≤c) (hn:n≤1048576) :
  Calls Tryz.prog 4 #[v] w fun e w' => ∃ t:ByteArray,e = .returned (.string t)∧t.size≤3000000∧Below w.heap.size w w' :=
 Tk.drawScan0 (fun w v n h1 h2 h3=>Tk.drawParse Tk.spoil_is Tk.loose_is w v n h1 h2 h3) w v n hB hc hn
end Go.Proofs.YtfoimmnlojjfbaaGreatDoor
