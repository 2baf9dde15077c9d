import Derived.Test.YtkikhpppkpelfaaGreatKTk
import Derived.Test.YtkikhpppkpelfaaGreatKGnE
import Derived.Test.YtkikhpppkpelfaaGreatKLayA
set_option maxRecDepth 100000
set_option maxHeartbeats 8000000
namespace Go.Proofs.YtkikhpppkpelfaaGreat
open Go.RowKit
structure Gn.Pl (bp N:Nat) (W:World) (v:Value) (L:List Bx.Fl):Prop where
  box:W.heap[bp]? = some (.cells #[v] 25)
  row:W.ownsRow bp 36 2 v L.length (Bx.fCs L)
  bd:L.length≤N∧∀ d ∈ L,d.name.size≤100∧d.text.size≤20000
theorem Gn.Pl.fw {bp N R:Nat} {W W':World} {v:Value} {L:List Bx.Fl} (h:Gn.Pl bp N W v L) (hf:Gn.Fw R W W'):Gn.Pl bp N W' v L:=⟨hf.blk h.box (by decide),hf.row h.row (by decide),h.bd⟩
theorem Gn.Pl.mono {bp N N':Nat} {W:World} {v:Value} {L:List Bx.Fl} (h:Gn.Pl bp N W v L) (hN:N≤N'):Gn.Pl bp N' W v L:=⟨h.box,h.row,Nat.le_trans h.bd.1 hN,h.bd.2⟩
theorem Gn.Pl.cell {bp N:Nat} {W:World} {v:Value} {L:List Bx.Fl} (h:Gn.Pl bp N W v L):W.cell? ⟨bp,0,none⟩=some v:=by rw [Lib.cell_of_heap h.box];rfl
theorem Gn.Pl.froz {bp N:Nat} {W:World} {v:Value} {L:List Bx.Fl} (h:Gn.Pl bp N W v L):W.frozen? ⟨bp,0,none⟩=false:=by simp [World.frozen?,h.box]
theorem Gn.Pl.set {bp N N' A:Nat} {W:World} {v v':Value} {L L':List Bx.Fl} (h:Gn.Pl bp N W v L) (hr:W.ownsRow A 36 2 v' L'.length (Bx.fCs L')) (hA:bp≤A) (hb:L'.length≤N'∧∀ d ∈ L',d.name.size≤100∧d.text.size≤20000):Gn.Pl bp N' (W.setCell ⟨bp,0,none⟩ v') v' L':=by
  refine ⟨by rw [Gn.set_same h.box];rfl,Gn.own_mono (Gn.own_keep hr (fun k hk _ _=>Gn.set_oth (fun e => ?_))) hA,hb⟩
  obtain ⟨_,c1,hc1⟩:=Gn.row_type hr hk
  subst e;rw [h.box] at hc1;injection hc1 with hc1;injection hc1 with _ hc1 _;exact absurd hc1 (by decide)
theorem Gn.Dw.set {R P bp i:Nat} {w W:World} {v:Value} (h:Gn.Dw R P w W) (hb:w.heap.size≤bp) (hR:R < bp):Gn.Dw R P w (W.setCell ⟨bp,i,none⟩ v):=by
  obtain ⟨⟨p,hp,hr⟩,hf⟩:=h
  exact ⟨⟨p,hp,Gn.Rd_keep hr (fun k hk=>Gn.set_oth (by omega))⟩,⟨hf.os,hf.tape,hf.output,Nat.le_trans hf.size (by simp [World.setCell]),fun k hk1 hk2=>(Gn.set_oth (by omega)).trans (hf.keep k hk1 hk2)⟩⟩
theorem Gn.put_bd {L:List Bx.Fl} {N:Nat} {f:Bx.Fl} (h:L.length≤N∧∀ d ∈ L,d.name.size≤100∧d.text.size≤20000) (hf:f.name.size≤100∧f.text.size≤20000):(Bx.put L f).length≤N+1∧∀ d ∈ Bx.put L f,d.name.size≤100∧d.text.size≤20000:=by
  refine ⟨Nat.le_trans (Bx.put_len f) (by omega),fun d hd => ?_⟩
  rcases Bx.put_mem hd with rfl | hd
  · exact hf
  · exact h.2 d hd
def Gn.Sh (L:List Bx.Fl):Prop:=Bx.Up L∧∀ d ∈ L,d.name.size≤10
theorem Gn.Sh.put {L:List Bx.Fl} (h:Gn.Sh L) {f:Bx.Fl} (hf:f.name.size≤10):Gn.Sh (Bx.put L f):=⟨Bx.up_put h.1 f,fun d hd=>by
  rcases Bx.put_mem hd with rfl | hd
  · exact hf
  · exact h.2 d hd⟩
theorem Gn.putW {R P bp N:Nat} {w W:World} {v:Value} {L:List Bx.Fl} (h:Gn.Dw R P w W) (hp:Gn.Pl bp N W v L) (hu:Gn.Sh L) (hN:N≤900) (hb:w.heap.size≤bp) (hR:R < bp) (x t:ByteArray) (hx:x.size≤10∧t.size≤20000) :
    Calls Tryz.prog 25 #[v,.string x,.string t] W fun e w' => ∃ a n c L',e = .returned (.slice a n c)∧(w'.cell? ⟨bp,0,none⟩=some v∧w'.frozen? ⟨bp,0,none⟩=false)∧Gn.Pl bp (N+1) (w'.setCell ⟨bp,0,none⟩ (.slice a n c)) (.slice a n c) L'∧Gn.Sh L'∧Gn.Dw R P w (w'.setCell ⟨bp,0,none⟩ (.slice a n c)):=by
  have hbd:=hp.bd
  refine (Bx.l6put_any L hu.1 v x t W (by omega) (Bx.own_off hp.row)).mono ?_
  rintro e w' ⟨a,c,he,ho,hbl⟩
  have hp':=hp.fw (Gn.Fw.of_below (B:=R) hbl)
  have hlt:bp < W.heap.size:=(Array.getElem?_eq_some_iff.1 hp.box).1
  exact ⟨a,_,c,_,he,⟨hp'.cell,hp'.froz⟩,hp'.set ho (Nat.le_of_lt hlt) (Gn.put_bd hbd ⟨Nat.le_trans hx.1 (by decide),hx.2⟩),hu.put hx.1,(h.below hbl).set hb hR⟩
def Gn.PlPost (R P:Nat) (w:World) (e:Ending) (w':World):Prop := ∃ a n c L,e = .returned (.agg #[.slice a n c])∧w'.ownsRow w.heap.size 36 2 (.slice a n c) L.length (Bx.fCs L)∧(L.length≤9∧∀ d ∈ L,d.name.size≤100∧d.text.size≤20000)∧Gn.Sh L∧Gn.Dw R (P+400000200) w w'
theorem Gn.k8 {k:Int} (hk:0≤k∧k≤7) (h:0 < k):(0≤k - 1∧k - 1≤7)∧(7 - (k - 1)).toNat=(7 - k).toNat+1∧(7 - k).toNat≤6:=by omega
theorem Gn.wr_k8 {k:Int} (hk:0≤k∧k≤7) (h:0 < k):wrap64 (k - 1)=k - 1:=IntWalk.wrap64_in _ (by omega)
theorem Gn.pl_b {P q:Nat} (hP:P≤90000000) (hq:q≤6):P+1+9 * q≤900000000∧P+1+9 * q+1≤900000000∧q≤900∧P+1+9 * q+1+8≤P+1+9 * (q+1):=by omega
theorem Gn.v4 {v:Int} (h:0≤v∧v < 4):(v=0∧Gn.Mk)∨(0 < v∧Gn.Mk):=by simp only [Gn.Mk,and_true];omega
theorem Gn.pl_c {P:Nat} (hP:P≤90000000) (h2:30≤P):P+64≤900000000∧P+64+1≤299999000∧30≤P+64+1∧P+200000100≤900000000∧P+200000100+1≤299999000∧30≤P+200000100+1:=by refine ⟨?_, ?_, ?_, ?_, ?_, ?_⟩ <;> omega
theorem Gn.pl_d (P:Nat):P+64+1≤P+200000100∧P+64+1+200000010≤P+200000100∧P+200000100+1≤P+400000200∧P+200000100+1+200000010≤P+400000200:=by refine ⟨?_, ?_, ?_, ?_⟩ <;> omega
theorem Gn.pl_e {P:Nat} {k:Int} (hk:0≤k∧k≤7):P+1+9 * (7 - k).toNat≤P+64∧(7 - k).toNat≤7:=by omega
theorem Gn.pl_end {R P bp n c:Nat} {w V0 W:World} {a:Option Addr} {L:List Bx.Fl} (h:Gn.Dw R (P+400000200) V0 W) (hp:Gn.Pl bp 9 W (.slice a n c) L) (h0:Gn.Fw R w V0) (hT:W.heap[w.heap.size]? = some (.cells #[.slice none 0 0] 25)) (hb:w.heap.size≤bp) (hR:R < w.heap.size) (hs:Gn.Sh L):Gn.PlPost R P w (.returned (.agg #[.slice a n c])) (W.setCell ⟨w.heap.size,0,none⟩ (.slice a n c)):=by
  obtain ⟨⟨p,hp1,hr⟩,hf⟩:=h
  have hfw:=h0.trans hf
  refine ⟨a,n,c,L,rfl,Gn.own_mono (Gn.own_keep hp.row (fun k hk _ _=>Gn.set_oth (fun e => ?_))) hb,hp.bd,hs,⟨p,hp1,Gn.Rd_keep hr (fun k hk=>Gn.set_oth (by omega))⟩,⟨hfw.os,hfw.tape,hfw.output,Nat.le_trans hfw.size (by simp [World.setCell]),fun k hk1 hk2=>(Gn.set_oth (by omega)).trans (hfw.keep k hk1 hk2)⟩⟩
  obtain ⟨_,c1,hc1⟩:=Gn.row_type hp.row hk
  subst e;rw [hT] at hc1;injection hc1 with hc1;injection hc1 with _ hc1 _;exact absurd hc1 (by decide)
theorem Gn.place_any {R p P:Nat} {w:World} (hr:Mill.Rd w R p) (hp:p≤P) (hP:P≤90000000) (hP2:30≤P) :
    Calls Tryz.prog 12 #[.pointer (some ⟨R,0,none⟩)] w (Gn.PlPost R P w):=by
  have hRw:=hr.lt
  obtain ⟨V0,hV0⟩:∃ V,w.alloc (.cells #[.slice none 0 0] 25)=V:=⟨_,rfl⟩
  have hb0:=Gn.below_new hV0
  have HT0:Hid (V0.heap[w.heap.size]? = some (.cells #[.slice none 0 0] 25)):=by rw [Hid,← hV0];exact World.alloc_heap_new w _
  obtain ⟨V1,hV1⟩:∃ V,V0.alloc (.cells #[.slice none 0 0] 25)=V:=⟨_,rfl⟩
  obtain ⟨bp,hbp⟩:∃ b,V0.heap.size=b:=⟨_,rfl⟩
  have hx1:V1.heap[bp]? = some (.cells #[.slice none 0 0] 25):=by rw [← hV1,← hbp];exact World.alloc_heap_new V0 _
  have pl1:Gn.Pl bp 0 V1 (.slice none 0 0) []:=⟨hx1,⟨rfl,.inl ⟨rfl,rfl⟩⟩,by simp,by simp⟩
  have dw1:Gn.Dw R P V0 V1:=(Gn.Dw.refl (hr.below hb0) hp).below (Gn.below_new hV1)
  have HF0:Hid (Gn.Fw R w V0):=Gn.Fw.of_below hb0
  have hV0b:V0.heap.size≤bp:=Nat.le_of_eq hbp
  have hV0w:w.heap.size≤bp:=Nat.le_trans hb0.size hV0b
  have hRb:R < bp:=Nat.lt_of_lt_of_le hRw hV0w
  have y1:=pl1.cell
  have z1:=pl1.froz
  obtain ⟨V2,hV2⟩:∃ V,V1.setCell ⟨bp,0,none⟩ (.slice none 0 0)=V:=⟨_,rfl⟩
  have pl1:Gn.Pl bp 0 V2 (.slice none 0 0) []:=by rw [← hV2];exact pl1.set (A:=bp) (L':=[]) ⟨rfl,.inl ⟨rfl,rfl⟩⟩ (Nat.le_refl _) ⟨by simp,by simp⟩
  have dw1:Gn.Dw R P V0 V2:=by rw [← hV2];exact dw1.set hV0b hRb
  obtain ⟨kc1,kc2,kc3,kc4,kc5,kc6⟩:=Gn.pl_c hP hP2
  obtain ⟨d1,d2,d3,d4⟩:=Gn.pl_d P
  have b0:P≤900000000:=by omega
  have t0:Gn.Mk:=trivial
  clear hb0 hx1
  go_enter Tryz.func12,Tryz.ntmps12
  go_wp2_with (first
    | (go_at_call 13
       have _t:=t0
       clear t0
       refine (Gn.pickW 8 dw1 b0 (by decide) (by decide)).mono ?_
       rintro e w1 ⟨n,rfl,hn,dw2,hf2⟩
       have PL2:Hid (Gn.Pl bp 0 w1 (.slice none 0 0) []):=pl1.fw hf2
       have DW2:Hid (Gn.Dw R (P+1) V0 w1):=dw2
       clear dw1 pl1 dw2 hf2))
  go_loopw [4] (fun k wr => ∃ (kk:Int) (v:Value) (L:List Bx.Fl),(0≤kk∧kk≤7)∧k = .int .i64 kk∧Gn.Sh L∧Gn.Pl bp (7 - kk).toNat wr v L∧Gn.Dw R (P+1+9 * (7 - kk).toNat) V0 wr) (fun k _=>(intOf k).toNat)
  case atStart=>exact ⟨n,_,[],by omega,rfl,⟨trivial,by simp⟩,PL2.out.mono (Nat.zero_le _),DW2.out.mono (Nat.le_add_right _ _)⟩
  case round =>
    obtain ⟨kk,v,L,hkk,rfl,hu,pl,dw⟩:=hrel
    by_cases hlt:0 < kk
    · have hk8:=Gn.k8 hkk hlt
      have hwk:=Gn.wr_k8 hkk hlt
      obtain ⟨bA,bB,bC,bD⟩:=Gn.pl_b (P:=P) hP hk8.2.2
      go_wp2_with fail
      have dwd:=dw.below ((Below.refl _ wr).drew)
      have pld:=pl.fw (Gn.Fw.of_below (B:=R) ((Below.refl _ wr).drew))
      have yd:=pld.cell
      refine wp_region_held_drew (S:=(fun _=>True)) (by kernel_rfl) (trivial) (fun hHeld => ?_)
      refine Tk 0 (.pointer (some ⟨bp,0,none⟩)) rfl ?_
      try simp [Act.put]
      refine Tk 2 (.pointer (some ⟨R,0,none⟩)) rfl ?_
      try simp [Act.put]
      refine Tk 4 (.pointer (some ⟨R,0,none⟩)) rfl ?_
      try simp [Act.put]
      refine wpAnyH_ready (rs:=[1,3]) (by kernel_rfl) (by simp) ?_
      refine AllReadyH.cons rfl (fun KK hK => ?_) (AllReadyH.cons rfl (fun KK hK => ?_) AllReadyH.nil)
      · go_simp
        refine hK.out _ _ (trivial) (fun hHeld => ?_)
        clear hK
        try simp [Act.put]
        refine wpAnyH_ready (rs:=[3]) (by kernel_rfl) (by simp) ?_
        refine AllReadyH.cons rfl (fun KK hK => ?_) AllReadyH.nil
        go_simp
        refine (Gn.pathW dwd bA).mono ?_
        rintro e w3 ⟨x,rfl,hx,dw3,hf3⟩
        have pl3:=pld.fw hf3
        have y3:=pl3.cell
        go_wp2
        refine hK.out _ _ (trivial) (fun hHeld => ?_)
        clear hK
        try simp [Act.put]
        refine wpAnyH_ready (rs:=[5]) (by kernel_rfl) (by simp) ?_
        refine AllReadyH.cons rfl (fun KK hK => ?_) AllReadyH.nil
        go_simp
        refine (Gn.textW dw3 bB).mono ?_
        rintro e w5 ⟨t,rfl,ht,dw5,hf5⟩
        have pl5:=pl3.fw hf5
        have y5:=pl5.cell
        go_wp2
        refine hK.out _ _ (trivial) (fun hHeld => ?_)
        clear hK
        try simp [Act.put]
        refine wpAnyH_ready (rs:=[6]) (by kernel_rfl) (by simp) ?_
        refine AllReadyH.cons rfl (fun KK hK => ?_) AllReadyH.nil
        go_simp
        refine (Gn.putW dw5 pl5 hu bC hV0b hRb x t ⟨Nat.le_trans hx (by decide),Nat.le_trans ht (by decide)⟩).mono ?_
        rintro e w6 ⟨a6,n6,c6,L6,rfl,hc6,pl6,hu6,dw6⟩
        obtain ⟨y6,z6⟩:=hc6
        obtain ⟨V8,hV8⟩:∃ V,w6.setCell ⟨bp,0,none⟩ (.slice a6 n6 c6)=V:=⟨_,rfl⟩
        rw [hV8] at pl6 dw6
        go_wp2
        refine hK.out _ _ (trivial) (fun hHeld => ?_)
        clear hK
        try simp [Act.put]
        refine Tk 7 (.pointer (some ⟨bp,0,none⟩)) rfl ?_
        try simp [Act.put]
        refine wpAnyH_ready (rs:=[8]) (by kernel_rfl) (by simp) ?_
        refine AllReadyH.cons rfl (fun KK hK => ?_) AllReadyH.nil
        go_simp
        try rw [hV8]
        refine hK.out _ _ (trivial) (fun hHeld => ?_)
        clear hK
        try simp [Act.put]
        refine wpAnyH_done (by kernel_rfl) ?_ _
        clear hHeld yd y3 y5 y6 z6 hV8
        go_wp2_with fail
        go_roundw
        case rel=>exact ⟨kk - 1,_,L6,hk8.1,rfl,hu6,by rw [hk8.2.1];exact pl6,by rw [hk8.2.1];exact dw6.mono bD⟩
        case measure=>simp [intOf];omega
      · go_simp
        refine (Gn.pathW dwd bA).mono ?_
        rintro e w3 ⟨x,rfl,hx,dw3,hf3⟩
        have pl3:=pld.fw hf3
        have y3:=pl3.cell
        go_wp2
        refine hK.out _ _ (trivial) (fun hHeld => ?_)
        clear hK
        try simp [Act.put]
        refine wpAnyH_ready (rs:=[1,5]) (by kernel_rfl) (by simp) ?_
        refine AllReadyH.cons rfl (fun KK hK => ?_) (AllReadyH.cons rfl (fun KK hK => ?_) AllReadyH.nil)
        · go_simp
          refine hK.out _ _ (trivial) (fun hHeld => ?_)
          clear hK
          try simp [Act.put]
          refine wpAnyH_ready (rs:=[5]) (by kernel_rfl) (by simp) ?_
          refine AllReadyH.cons rfl (fun KK hK => ?_) AllReadyH.nil
          go_simp
          refine (Gn.textW dw3 bB).mono ?_
          rintro e w5 ⟨t,rfl,ht,dw5,hf5⟩
          have pl5:=pl3.fw hf5
          have y5:=pl5.cell
          go_wp2
          refine hK.out _ _ (trivial) (fun hHeld => ?_)
          clear hK
          try simp [Act.put]
          refine wpAnyH_ready (rs:=[6]) (by kernel_rfl) (by simp) ?_
          refine AllReadyH.cons rfl (fun KK hK => ?_) AllReadyH.nil
          go_simp
          refine (Gn.putW dw5 pl5 hu bC hV0b hRb x t ⟨Nat.le_trans hx (by decide),Nat.le_trans ht (by decide)⟩).mono ?_
          rintro e w6 ⟨a6,n6,c6,L6,rfl,hc6,pl6,hu6,dw6⟩
          obtain ⟨y6,z6⟩:=hc6
          obtain ⟨V8,hV8⟩:∃ V,w6.setCell ⟨bp,0,none⟩ (.slice a6 n6 c6)=V:=⟨_,rfl⟩
          rw [hV8] at pl6 dw6
          go_wp2
          refine hK.out _ _ (trivial) (fun hHeld => ?_)
          clear hK
          try simp [Act.put]
          refine Tk 7 (.pointer (some ⟨bp,0,none⟩)) rfl ?_
          try simp [Act.put]
          refine wpAnyH_ready (rs:=[8]) (by kernel_rfl) (by simp) ?_
          refine AllReadyH.cons rfl (fun KK hK => ?_) AllReadyH.nil
          go_simp
          try rw [hV8]
          refine hK.out _ _ (trivial) (fun hHeld => ?_)
          clear hK
          try simp [Act.put]
          refine wpAnyH_done (by kernel_rfl) ?_ _
          clear hHeld yd y3 y5 y6 z6 hV8
          go_wp2_with fail
          go_roundw
          case rel=>exact ⟨kk - 1,_,L6,hk8.1,rfl,hu6,by rw [hk8.2.1];exact pl6,by rw [hk8.2.1];exact dw6.mono bD⟩
          case measure=>simp [intOf];omega
        · go_simp
          refine (Gn.textW dw3 bB).mono ?_
          rintro e w5 ⟨t,rfl,ht,dw5,hf5⟩
          have pl5:=pl3.fw hf5
          have y5:=pl5.cell
          go_wp2
          refine hK.out _ _ (trivial) (fun hHeld => ?_)
          clear hK
          try simp [Act.put]
          refine wpAnyH_ready (rs:=[1]) (by kernel_rfl) (by simp) ?_
          refine AllReadyH.cons rfl (fun KK hK => ?_) AllReadyH.nil
          go_simp
          refine hK.out _ _ (trivial) (fun hHeld => ?_)
          clear hK
          try simp [Act.put]
          refine wpAnyH_ready (rs:=[6]) (by kernel_rfl) (by simp) ?_
          refine AllReadyH.cons rfl (fun KK hK => ?_) AllReadyH.nil
          go_simp
          refine (Gn.putW dw5 pl5 hu bC hV0b hRb x t ⟨Nat.le_trans hx (by decide),Nat.le_trans ht (by decide)⟩).mono ?_
          rintro e w6 ⟨a6,n6,c6,L6,rfl,hc6,pl6,hu6,dw6⟩
          obtain ⟨y6,z6⟩:=hc6
          obtain ⟨V8,hV8⟩:∃ V,w6.setCell ⟨bp,0,none⟩ (.slice a6 n6 c6)=V:=⟨_,rfl⟩
          rw [hV8] at pl6 dw6
          go_wp2
          refine hK.out _ _ (trivial) (fun hHeld => ?_)
          clear hK
          try simp [Act.put]
          refine Tk 7 (.pointer (some ⟨bp,0,none⟩)) rfl ?_
          try simp [Act.put]
          refine wpAnyH_ready (rs:=[8]) (by kernel_rfl) (by simp) ?_
          refine AllReadyH.cons rfl (fun KK hK => ?_) AllReadyH.nil
          go_simp
          try rw [hV8]
          refine hK.out _ _ (trivial) (fun hHeld => ?_)
          clear hK
          try simp [Act.put]
          refine wpAnyH_done (by kernel_rfl) ?_ _
          clear hHeld yd y3 y5 y6 z6 hV8
          go_wp2_with fail
          go_roundw
          case rel=>exact ⟨kk - 1,_,L6,hk8.1,rfl,hu6,by rw [hk8.2.1];exact pl6,by rw [hk8.2.1];exact dw6.mono bD⟩
          case measure=>simp [intOf];omega
    · have dwx:=dw.mono (Gn.pl_e (P:=P) hkk).1
      have plx:=pl.mono (Gn.pl_e (P:=P) hkk).2
      clear dw pl
      have e0:Gn.Mk:=trivial
      go_wp2_with (first
    | (go_at_call 13
       have _t:=e0
       clear e0
       refine (Gn.pickW 4 dwx kc1 (by decide) (by decide)).mono ?_
       rintro e wp ⟨vp,rfl,hvp,dwp,hfp⟩
       have plp:=plx.fw hfp
       rcases Gn.v4 hvp with ⟨rfl,q0⟩ | ⟨hvp2,q1⟩))
      · have dwr:=dwp.mono d1
        have plr:=plp.mono (by decide:7≤8)
        obtain ⟨aF,cF,rfl⟩:=Gn.rowLen plr.row
        have s0:Gn.Mk:=trivial
        go_wp2_with (first
            | (go_at_call 13
               have _t:=s0
               clear s0
               refine (Gn.pickW 4 dwr kc4 (by decide) (by decide)).mono ?_
               rintro e wq ⟨vq,rfl,hvq,dwq,hfq⟩
               have plq:=plr.fw hfq
               have hT:=dwq.2.blk HT0.out (by decide)
               have yT:wq.cell? ⟨w.heap.size,0,none⟩=some (.slice none 0 0):=by rw [Lib.cell_of_heap hT];rfl
               have zT:wq.frozen? ⟨w.heap.size,0,none⟩=false:=by simp [World.frozen?,hT]
               have yF:=plq.cell
               have hT9:(wq.setCell ⟨w.heap.size,0,none⟩ (.slice aF L.length cF)).cell? ⟨w.heap.size,0,none⟩=some (.slice aF L.length cF):=by rw [Lib.cell_of_heap (Gn.set_same hT)];rfl
               rcases Gn.v4 hvq with ⟨rfl,q0⟩ | ⟨hvq2,q1⟩))
        · have dwF:=dwq.mono d3
          have plF:=plq.mono (by decide:8≤9)
          exact bodyPost_ret (v:=.agg #[(.slice aF L.length cF)]) (by simp [results,Tryz.results12,go_sem,hT9]) rfl (Gn.pl_end dwF plF HF0.out hT hV0w hRw hu)
        · have dwd:=dwq.below ((Below.refl _ wq).drew)
          have pld:=plq.fw (Gn.Fw.of_below (B:=R) ((Below.refl _ wq).drew))
          have yd:=pld.cell
          refine wp_region_held_drew (S:=(fun _=>True)) (by kernel_rfl) (trivial) (fun hHeld => ?_)
          refine Tk 0 (.pointer (some ⟨bp,0,none⟩)) rfl ?_
          try simp [Act.put]
          refine Tk 2 (.pointer (some ⟨R,0,none⟩)) rfl ?_
          try simp [Act.put]
          refine wpAnyH_ready (rs:=[1,3]) (by kernel_rfl) (by simp) ?_
          refine AllReadyH.cons rfl (fun KK hK => ?_) (AllReadyH.cons rfl (fun KK hK => ?_) AllReadyH.nil)
          · go_simp
            refine hK.out _ _ (trivial) (fun hHeld => ?_)
            clear hK
            try simp [Act.put]
            refine wpAnyH_ready (rs:=[3]) (by kernel_rfl) (by simp) ?_
            refine AllReadyH.cons rfl (fun KK hK => ?_) AllReadyH.nil
            go_simp
            refine (Gn.tool_any dwd kc5 kc6).mono ?_
            rintro e w3 ⟨t,rfl,ht,dw3,hf3⟩
            have pl3:=pld.fw hf3
            have y3:=pl3.cell
            go_wp2
            refine hK.out _ _ (trivial) (fun hHeld => ?_)
            clear hK
            try simp [Act.put]
            refine wpAnyH_ready (rs:=[4]) (by kernel_rfl) (by simp) ?_
            refine AllReadyH.cons rfl (fun KK hK => ?_) AllReadyH.nil
            go_simp
            refine (Gn.putW dw3 pl3 hu (by decide) hV0b hRb ⟨#[116,49]⟩ t ⟨by decide,ht⟩).mono ?_
            rintro e w6 ⟨a6,n6,c6,L6,rfl,hc6,pl6,hu6,dw6⟩
            obtain ⟨y6,z6⟩:=hc6
            obtain ⟨V8,hV8⟩:∃ V,w6.setCell ⟨bp,0,none⟩ (.slice a6 n6 c6)=V:=⟨_,rfl⟩
            rw [hV8] at pl6 dw6
            go_wp2
            refine hK.out _ _ (trivial) (fun hHeld => ?_)
            clear hK
            try simp [Act.put]
            refine Tk 5 (.pointer (some ⟨bp,0,none⟩)) rfl ?_
            try simp [Act.put]
            refine wpAnyH_ready (rs:=[6]) (by kernel_rfl) (by simp) ?_
            refine AllReadyH.cons rfl (fun KK hK => ?_) AllReadyH.nil
            go_simp
            try rw [hV8]
            refine hK.out _ _ (trivial) (fun hHeld => ?_)
            clear hK
            try simp [Act.put]
            refine wpAnyH_done (by kernel_rfl) ?_ _
            clear hHeld yd y3 y6 z6 hV8
            have dwF:=dw6.mono d4
            have plF:=pl6
            clear hT yT zT yF hT9
            have hT:=dwF.2.blk HT0.out (by decide)
            have yT:V8.cell? ⟨w.heap.size,0,none⟩=some (.slice none 0 0):=by rw [Lib.cell_of_heap hT];rfl
            have zT:V8.frozen? ⟨w.heap.size,0,none⟩=false:=by simp [World.frozen?,hT]
            have yF:=plF.cell
            have hT9:(V8.setCell ⟨w.heap.size,0,none⟩ (.slice a6 n6 c6)).cell? ⟨w.heap.size,0,none⟩=some (.slice a6 n6 c6):=by rw [Lib.cell_of_heap (Gn.set_same hT)];rfl
            go_wp2_with fail
            exact bodyPost_ret (v:=.agg #[(.slice a6 n6 c6)]) (by simp [results,Tryz.results12,go_sem,hT9]) rfl (Gn.pl_end dwF plF HF0.out hT hV0w hRw hu6)
          · go_simp
            refine (Gn.tool_any dwd kc5 kc6).mono ?_
            rintro e w3 ⟨t,rfl,ht,dw3,hf3⟩
            have pl3:=pld.fw hf3
            have y3:=pl3.cell
            go_wp2
            refine hK.out _ _ (trivial) (fun hHeld => ?_)
            clear hK
            try simp [Act.put]
            refine wpAnyH_ready (rs:=[1]) (by kernel_rfl) (by simp) ?_
            refine AllReadyH.cons rfl (fun KK hK => ?_) AllReadyH.nil
            go_simp
            refine hK.out _ _ (trivial) (fun hHeld => ?_)
            clear hK
            try simp [Act.put]
            refine wpAnyH_ready (rs:=[4]) (by kernel_rfl) (by simp) ?_
            refine AllReadyH.cons rfl (fun KK hK => ?_) AllReadyH.nil
            go_simp
            refine (Gn.putW dw3 pl3 hu (by decide) hV0b hRb ⟨#[116,49]⟩ t ⟨by decide,ht⟩).mono ?_
            rintro e w6 ⟨a6,n6,c6,L6,rfl,hc6,pl6,hu6,dw6⟩
            obtain ⟨y6,z6⟩:=hc6
            obtain ⟨V8,hV8⟩:∃ V,w6.setCell ⟨bp,0,none⟩ (.slice a6 n6 c6)=V:=⟨_,rfl⟩
            rw [hV8] at pl6 dw6
            go_wp2
            refine hK.out _ _ (trivial) (fun hHeld => ?_)
            clear hK
            try simp [Act.put]
            refine Tk 5 (.pointer (some ⟨bp,0,none⟩)) rfl ?_
            try simp [Act.put]
            refine wpAnyH_ready (rs:=[6]) (by kernel_rfl) (by simp) ?_
            refine AllReadyH.cons rfl (fun KK hK => ?_) AllReadyH.nil
            go_simp
            try rw [hV8]
            refine hK.out _ _ (trivial) (fun hHeld => ?_)
            clear hK
            try simp [Act.put]
            refine wpAnyH_done (by kernel_rfl) ?_ _
            clear hHeld yd y3 y6 z6 hV8
            have dwF:=dw6.mono d4
            have plF:=pl6
            clear hT yT zT yF hT9
            have hT:=dwF.2.blk HT0.out (by decide)
            have yT:V8.cell? ⟨w.heap.size,0,none⟩=some (.slice none 0 0):=by rw [Lib.cell_of_heap hT];rfl
            have zT:V8.frozen? ⟨w.heap.size,0,none⟩=false:=by simp [World.frozen?,hT]
            have yF:=plF.cell
            have hT9:(V8.setCell ⟨w.heap.size,0,none⟩ (.slice a6 n6 c6)).cell? ⟨w.heap.size,0,none⟩=some (.slice a6 n6 c6):=by rw [Lib.cell_of_heap (Gn.set_same hT)];rfl
            go_wp2_with fail
            exact bodyPost_ret (v:=.agg #[(.slice a6 n6 c6)]) (by simp [results,Tryz.results12,go_sem,hT9]) rfl (Gn.pl_end dwF plF HF0.out hT hV0w hRw hu6)
      · have dwd:=dwp.below ((Below.refl _ wp).drew)
        have pld:=plp.fw (Gn.Fw.of_below (B:=R) ((Below.refl _ wp).drew))
        have yd:=pld.cell
        refine wp_region_held_drew (S:=(fun _=>True)) (by kernel_rfl) (trivial) (fun hHeld => ?_)
        refine Tk 0 (.pointer (some ⟨bp,0,none⟩)) rfl ?_
        try simp [Act.put]
        refine Tk 2 (.pointer (some ⟨R,0,none⟩)) rfl ?_
        try simp [Act.put]
        refine wpAnyH_ready (rs:=[1,3]) (by kernel_rfl) (by simp) ?_
        refine AllReadyH.cons rfl (fun KK hK => ?_) (AllReadyH.cons rfl (fun KK hK => ?_) AllReadyH.nil)
        · go_simp
          refine hK.out _ _ (trivial) (fun hHeld => ?_)
          clear hK
          try simp [Act.put]
          refine wpAnyH_ready (rs:=[3]) (by kernel_rfl) (by simp) ?_
          refine AllReadyH.cons rfl (fun KK hK => ?_) AllReadyH.nil
          go_simp
          refine (Gn.tool_any dwd kc2 kc3).mono ?_
          rintro e w3 ⟨t,rfl,ht,dw3,hf3⟩
          have pl3:=pld.fw hf3
          have y3:=pl3.cell
          go_wp2
          refine hK.out _ _ (trivial) (fun hHeld => ?_)
          clear hK
          try simp [Act.put]
          refine wpAnyH_ready (rs:=[4]) (by kernel_rfl) (by simp) ?_
          refine AllReadyH.cons rfl (fun KK hK => ?_) AllReadyH.nil
          go_simp
          refine (Gn.putW dw3 pl3 hu (by decide) hV0b hRb ⟨#[116,48]⟩ t ⟨by decide,ht⟩).mono ?_
          rintro e w6 ⟨a6,n6,c6,L6,rfl,hc6,pl6,hu6,dw6⟩
          obtain ⟨y6,z6⟩:=hc6
          obtain ⟨V8,hV8⟩:∃ V,w6.setCell ⟨bp,0,none⟩ (.slice a6 n6 c6)=V:=⟨_,rfl⟩
          rw [hV8] at pl6 dw6
          go_wp2
          refine hK.out _ _ (trivial) (fun hHeld => ?_)
          clear hK
          try simp [Act.put]
          refine Tk 5 (.pointer (some ⟨bp,0,none⟩)) rfl ?_
          try simp [Act.put]
          refine wpAnyH_ready (rs:=[6]) (by kernel_rfl) (by simp) ?_
          refine AllReadyH.cons rfl (fun KK hK => ?_) AllReadyH.nil
          go_simp
          try rw [hV8]
          refine hK.out _ _ (trivial) (fun hHeld => ?_)
          clear hK
          try simp [Act.put]
          refine wpAnyH_done (by kernel_rfl) ?_ _
          clear hHeld yd y3 y6 z6 hV8
          have dwr:=dw6.mono d2
          have plr:=pl6
          clear dw6 pl6
          have s0:Gn.Mk:=trivial
          go_wp2_with (first
              | (go_at_call 13
                 have _t:=s0
                 clear s0
                 refine (Gn.pickW 4 dwr kc4 (by decide) (by decide)).mono ?_
                 rintro e wq ⟨vq,rfl,hvq,dwq,hfq⟩
                 have plq:=plr.fw hfq
                 have hT:=dwq.2.blk HT0.out (by decide)
                 have yT:wq.cell? ⟨w.heap.size,0,none⟩=some (.slice none 0 0):=by rw [Lib.cell_of_heap hT];rfl
                 have zT:wq.frozen? ⟨w.heap.size,0,none⟩=false:=by simp [World.frozen?,hT]
                 have yF:=plq.cell
                 have hT9:(wq.setCell ⟨w.heap.size,0,none⟩ (.slice a6 n6 c6)).cell? ⟨w.heap.size,0,none⟩=some (.slice a6 n6 c6):=by rw [Lib.cell_of_heap (Gn.set_same hT)];rfl
                 rcases Gn.v4 hvq with ⟨rfl,q0⟩ | ⟨hvq2,q1⟩))
          · have dwF:=dwq.mono d3
            have plF:=plq.mono (by decide:8≤9)
            exact bodyPost_ret (v:=.agg #[(.slice a6 n6 c6)]) (by simp [results,Tryz.results12,go_sem,hT9]) rfl (Gn.pl_end dwF plF HF0.out hT hV0w hRw hu6)
          · have dwd:=dwq.below ((Below.refl _ wq).drew)
            have pld:=plq.fw (Gn.Fw.of_below (B:=R) ((Below.refl _ wq).drew))
            have yd:=pld.cell
            refine wp_region_held_drew (S:=(fun _=>True)) (by kernel_rfl) (trivial) (fun hHeld => ?_)
            refine Tk 0 (.pointer (some ⟨bp,0,none⟩)) rfl ?_
            try simp [Act.put]
            refine Tk 2 (.pointer (some ⟨R,0,none⟩)) rfl ?_
            try simp [Act.put]
            refine wpAnyH_ready (rs:=[1,3]) (by kernel_rfl) (by simp) ?_
            refine AllReadyH.cons rfl (fun KK hK => ?_) (AllReadyH.cons rfl (fun KK hK => ?_) AllReadyH.nil)
            · go_simp
              refine hK.out _ _ (trivial) (fun hHeld => ?_)
              clear hK
              try simp [Act.put]
              refine wpAnyH_ready (rs:=[3]) (by kernel_rfl) (by simp) ?_
              refine AllReadyH.cons rfl (fun KK hK => ?_) AllReadyH.nil
              go_simp
              refine (Gn.tool_any dwd kc5 kc6).mono ?_
              rintro e w3 ⟨t,rfl,ht,dw3,hf3⟩
              have pl3:=pld.fw hf3
              have y3:=pl3.cell
              go_wp2
              refine hK.out _ _ (trivial) (fun hHeld => ?_)
              clear hK
              try simp [Act.put]
              refine wpAnyH_ready (rs:=[4]) (by kernel_rfl) (by simp) ?_
              refine AllReadyH.cons rfl (fun KK hK => ?_) AllReadyH.nil
              go_simp
              refine (Gn.putW dw3 pl3 hu6 (by decide) hV0b hRb ⟨#[116,49]⟩ t ⟨by decide,ht⟩).mono ?_
              rintro e w6 ⟨a6,n6,c6,L6,rfl,hc6,pl6,hu6,dw6⟩
              obtain ⟨y6,z6⟩:=hc6
              obtain ⟨V8,hV8⟩:∃ V,w6.setCell ⟨bp,0,none⟩ (.slice a6 n6 c6)=V:=⟨_,rfl⟩
              rw [hV8] at pl6 dw6
              go_wp2
              refine hK.out _ _ (trivial) (fun hHeld => ?_)
              clear hK
              try simp [Act.put]
              refine Tk 5 (.pointer (some ⟨bp,0,none⟩)) rfl ?_
              try simp [Act.put]
              refine wpAnyH_ready (rs:=[6]) (by kernel_rfl) (by simp) ?_
              refine AllReadyH.cons rfl (fun KK hK => ?_) AllReadyH.nil
              go_simp
              try rw [hV8]
              refine hK.out _ _ (trivial) (fun hHeld => ?_)
              clear hK
              try simp [Act.put]
              refine wpAnyH_done (by kernel_rfl) ?_ _
              clear hHeld yd y3 y6 z6 hV8
              have dwF:=dw6.mono d4
              have plF:=pl6
              clear hT yT zT yF hT9
              have hT:=dwF.2.blk HT0.out (by decide)
              have yT:V8.cell? ⟨w.heap.size,0,none⟩=some (.slice none 0 0):=by rw [Lib.cell_of_heap hT];rfl
              have zT:V8.frozen? ⟨w.heap.size,0,none⟩=false:=by simp [World.frozen?,hT]
              have yF:=plF.cell
              have hT9:(V8.setCell ⟨w.heap.size,0,none⟩ (.slice a6 n6 c6)).cell? ⟨w.heap.size,0,none⟩=some (.slice a6 n6 c6):=by rw [Lib.cell_of_heap (Gn.set_same hT)];rfl
              go_wp2_with fail
              exact bodyPost_ret (v:=.agg #[(.slice a6 n6 c6)]) (by simp [results,Tryz.results12,go_sem,hT9]) rfl (Gn.pl_end dwF plF HF0.out hT hV0w hRw hu6)
            · go_simp
              refine (Gn.tool_any dwd kc5 kc6).mono ?_
              rintro e w3 ⟨t,rfl,ht,dw3,hf3⟩
              have pl3:=pld.fw hf3
              have y3:=pl3.cell
              go_wp2
              refine hK.out _ _ (trivial) (fun hHeld => ?_)
              clear hK
              try simp [Act.put]
              refine wpAnyH_ready (rs:=[1]) (by kernel_rfl) (by simp) ?_
              refine AllReadyH.cons rfl (fun KK hK => ?_) AllReadyH.nil
              go_simp
              refine hK.out _ _ (trivial) (fun hHeld => ?_)
              clear hK
              try simp [Act.put]
              refine wpAnyH_ready (rs:=[4]) (by kernel_rfl) (by simp) ?_
              refine AllReadyH.cons rfl (fun KK hK => ?_) AllReadyH.nil
              go_simp
              refine (Gn.putW dw3 pl3 hu6 (by decide) hV0b hRb ⟨#[116,49]⟩ t ⟨by decide,ht⟩).mono ?_
              rintro e w6 ⟨a6,n6,c6,L6,rfl,hc6,pl6,hu6,dw6⟩
              obtain ⟨y6,z6⟩:=hc6
              obtain ⟨V8,hV8⟩:∃ V,w6.setCell ⟨bp,0,none⟩ (.slice a6 n6 c6)=V:=⟨_,rfl⟩
              rw [hV8] at pl6 dw6
              go_wp2
              refine hK.out _ _ (trivial) (fun hHeld => ?_)
              clear hK
              try simp [Act.put]
              refine Tk 5 (.pointer (some ⟨bp,0,none⟩)) rfl ?_
              try simp [Act.put]
              refine wpAnyH_ready (rs:=[6]) (by kernel_rfl) (by simp) ?_
              refine AllReadyH.cons rfl (fun KK hK => ?_) AllReadyH.nil
              go_simp
              try rw [hV8]
              refine hK.out _ _ (trivial) (fun hHeld => ?_)
              clear hK
              try simp [Act.put]
              refine wpAnyH_done (by kernel_rfl) ?_ _
              clear hHeld yd y3 y6 z6 hV8
              have dwF:=dw6.mono d4
              have plF:=pl6
              clear hT yT zT yF hT9
              have hT:=dwF.2.blk HT0.out (by decide)
              have yT:V8.cell? ⟨w.heap.size,0,none⟩=some (.slice none 0 0):=by rw [Lib.cell_of_heap hT];rfl
              have zT:V8.frozen? ⟨w.heap.size,0,none⟩=false:=by simp [World.frozen?,hT]
              have yF:=plF.cell
              have hT9:(V8.setCell ⟨w.heap.size,0,none⟩ (.slice a6 n6 c6)).cell? ⟨w.heap.size,0,none⟩=some (.slice a6 n6 c6):=by rw [Lib.cell_of_heap (Gn.set_same hT)];rfl
              go_wp2_with fail
              exact bodyPost_ret (v:=.agg #[(.slice a6 n6 c6)]) (by simp [results,Tryz.results12,go_sem,hT9]) rfl (Gn.pl_end dwF plF HF0.out hT hV0w hRw hu6)
        · go_simp
          refine (Gn.tool_any dwd kc2 kc3).mono ?_
          rintro e w3 ⟨t,rfl,ht,dw3,hf3⟩
          have pl3:=pld.fw hf3
          have y3:=pl3.cell
          go_wp2
          refine hK.out _ _ (trivial) (fun hHeld => ?_)
          clear hK
          try simp [Act.put]
          refine wpAnyH_ready (rs:=[1]) (by kernel_rfl) (by simp) ?_
          refine AllReadyH.cons rfl (fun KK hK => ?_) AllReadyH.nil
          go_simp
          refine hK.out _ _ (trivial) (fun hHeld => ?_)
          clear hK
          try simp [Act.put]
          refine wpAnyH_ready (rs:=[4]) (by kernel_rfl) (by simp) ?_
          refine AllReadyH.cons rfl (fun KK hK => ?_) AllReadyH.nil
          go_simp
          refine (Gn.putW dw3 pl3 hu (by decide) hV0b hRb ⟨#[116,48]⟩ t ⟨by decide,ht⟩).mono ?_
          rintro e w6 ⟨a6,n6,c6,L6,rfl,hc6,pl6,hu6,dw6⟩
          obtain ⟨y6,z6⟩:=hc6
          obtain ⟨V8,hV8⟩:∃ V,w6.setCell ⟨bp,0,none⟩ (.slice a6 n6 c6)=V:=⟨_,rfl⟩
          rw [hV8] at pl6 dw6
          go_wp2
          refine hK.out _ _ (trivial) (fun hHeld => ?_)
          clear hK
          try simp [Act.put]
          refine Tk 5 (.pointer (some ⟨bp,0,none⟩)) rfl ?_
          try simp [Act.put]
          refine wpAnyH_ready (rs:=[6]) (by kernel_rfl) (by simp) ?_
          refine AllReadyH.cons rfl (fun KK hK => ?_) AllReadyH.nil
          go_simp
          try rw [hV8]
          refine hK.out _ _ (trivial) (fun hHeld => ?_)
          clear hK
          try simp [Act.put]
          refine wpAnyH_done (by kernel_rfl) ?_ _
          clear hHeld yd y3 y6 z6 hV8
          have dwr:=dw6.mono d2
          have plr:=pl6
          clear dw6 pl6
          have s0:Gn.Mk:=trivial
          go_wp2_with (first
              | (go_at_call 13
                 have _t:=s0
                 clear s0
                 refine (Gn.pickW 4 dwr kc4 (by decide) (by decide)).mono ?_
                 rintro e wq ⟨vq,rfl,hvq,dwq,hfq⟩
                 have plq:=plr.fw hfq
                 have hT:=dwq.2.blk HT0.out (by decide)
                 have yT:wq.cell? ⟨w.heap.size,0,none⟩=some (.slice none 0 0):=by rw [Lib.cell_of_heap hT];rfl
                 have zT:wq.frozen? ⟨w.heap.size,0,none⟩=false:=by simp [World.frozen?,hT]
                 have yF:=plq.cell
                 have hT9:(wq.setCell ⟨w.heap.size,0,none⟩ (.slice a6 n6 c6)).cell? ⟨w.heap.size,0,none⟩=some (.slice a6 n6 c6):=by rw [Lib.cell_of_heap (Gn.set_same hT)];rfl
                 rcases Gn.v4 hvq with ⟨rfl,q0⟩ | ⟨hvq2,q1⟩))
          · have dwF:=dwq.mono d3
            have plF:=plq.mono (by decide:8≤9)
            exact bodyPost_ret (v:=.agg #[(.slice a6 n6 c6)]) (by simp [results,Tryz.results12,go_sem,hT9]) rfl (Gn.pl_end dwF plF HF0.out hT hV0w hRw hu6)
          · have dwd:=dwq.below ((Below.refl _ wq).drew)
            have pld:=plq.fw (Gn.Fw.of_below (B:=R) ((Below.refl _ wq).drew))
            have yd:=pld.cell
            refine wp_region_held_drew (S:=(fun _=>True)) (by kernel_rfl) (trivial) (fun hHeld => ?_)
            refine Tk 0 (.pointer (some ⟨bp,0,none⟩)) rfl ?_
            try simp [Act.put]
            refine Tk 2 (.pointer (some ⟨R,0,none⟩)) rfl ?_
            try simp [Act.put]
            refine wpAnyH_ready (rs:=[1,3]) (by kernel_rfl) (by simp) ?_
            refine AllReadyH.cons rfl (fun KK hK => ?_) (AllReadyH.cons rfl (fun KK hK => ?_) AllReadyH.nil)
            · go_simp
              refine hK.out _ _ (trivial) (fun hHeld => ?_)
              clear hK
              try simp [Act.put]
              refine wpAnyH_ready (rs:=[3]) (by kernel_rfl) (by simp) ?_
              refine AllReadyH.cons rfl (fun KK hK => ?_) AllReadyH.nil
              go_simp
              refine (Gn.tool_any dwd kc5 kc6).mono ?_
              rintro e w3 ⟨t,rfl,ht,dw3,hf3⟩
              have pl3:=pld.fw hf3
              have y3:=pl3.cell
              go_wp2
              refine hK.out _ _ (trivial) (fun hHeld => ?_)
              clear hK
              try simp [Act.put]
              refine wpAnyH_ready (rs:=[4]) (by kernel_rfl) (by simp) ?_
              refine AllReadyH.cons rfl (fun KK hK => ?_) AllReadyH.nil
              go_simp
              refine (Gn.putW dw3 pl3 hu6 (by decide) hV0b hRb ⟨#[116,49]⟩ t ⟨by decide,ht⟩).mono ?_
              rintro e w6 ⟨a6,n6,c6,L6,rfl,hc6,pl6,hu6,dw6⟩
              obtain ⟨y6,z6⟩:=hc6
              obtain ⟨V8,hV8⟩:∃ V,w6.setCell ⟨bp,0,none⟩ (.slice a6 n6 c6)=V:=⟨_,rfl⟩
              rw [hV8] at pl6 dw6
              go_wp2
              refine hK.out _ _ (trivial) (fun hHeld => ?_)
              clear hK
              try simp [Act.put]
              refine Tk 5 (.pointer (some ⟨bp,0,none⟩)) rfl ?_
              try simp [Act.put]
              refine wpAnyH_ready (rs:=[6]) (by kernel_rfl) (by simp) ?_
              refine AllReadyH.cons rfl (fun KK hK => ?_) AllReadyH.nil
              go_simp
              try rw [hV8]
              refine hK.out _ _ (trivial) (fun hHeld => ?_)
              clear hK
              try simp [Act.put]
              refine wpAnyH_done (by kernel_rfl) ?_ _
              clear hHeld yd y3 y6 z6 hV8
              have dwF:=dw6.mono d4
              have plF:=pl6
              clear hT yT zT yF hT9
              have hT:=dwF.2.blk HT0.out (by decide)
              have yT:V8.cell? ⟨w.heap.size,0,none⟩=some (.slice none 0 0):=by rw [Lib.cell_of_heap hT];rfl
              have zT:V8.frozen? ⟨w.heap.size,0,none⟩=false:=by simp [World.frozen?,hT]
              have yF:=plF.cell
              have hT9:(V8.setCell ⟨w.heap.size,0,none⟩ (.slice a6 n6 c6)).cell? ⟨w.heap.size,0,none⟩=some (.slice a6 n6 c6):=by rw [Lib.cell_of_heap (Gn.set_same hT)];rfl
              go_wp2_with fail
              exact bodyPost_ret (v:=.agg #[(.slice a6 n6 c6)]) (by simp [results,Tryz.results12,go_sem,hT9]) rfl (Gn.pl_end dwF plF HF0.out hT hV0w hRw hu6)
            · go_simp
              refine (Gn.tool_any dwd kc5 kc6).mono ?_
              rintro e w3 ⟨t,rfl,ht,dw3,hf3⟩
              have pl3:=pld.fw hf3
              have y3:=pl3.cell
              go_wp2
              refine hK.out _ _ (trivial) (fun hHeld => ?_)
              clear hK
              try simp [Act.put]
              refine wpAnyH_ready (rs:=[1]) (by kernel_rfl) (by simp) ?_
              refine AllReadyH.cons rfl (fun KK hK => ?_) AllReadyH.nil
              go_simp
              refine hK.out _ _ (trivial) (fun hHeld => ?_)
              clear hK
              try simp [Act.put]
              refine wpAnyH_ready (rs:=[4]) (by kernel_rfl) (by simp) ?_
              refine AllReadyH.cons rfl (fun KK hK => ?_) AllReadyH.nil
              go_simp
              refine (Gn.putW dw3 pl3 hu6 (by decide) hV0b hRb ⟨#[116,49]⟩ t ⟨by decide,ht⟩).mono ?_
              rintro e w6 ⟨a6,n6,c6,L6,rfl,hc6,pl6,hu6,dw6⟩
              obtain ⟨y6,z6⟩:=hc6
              obtain ⟨V8,hV8⟩:∃ V,w6.setCell ⟨bp,0,none⟩ (.slice a6 n6 c6)=V:=⟨_,rfl⟩
              rw [hV8] at pl6 dw6
              go_wp2
              refine hK.out _ _ (trivial) (fun hHeld => ?_)
              clear hK
              try simp [Act.put]
              refine Tk 5 (.pointer (some ⟨bp,0,none⟩)) rfl ?_
              try simp [Act.put]
              refine wpAnyH_ready (rs:=[6]) (by kernel_rfl) (by simp) ?_
              refine AllReadyH.cons rfl (fun KK hK => ?_) AllReadyH.nil
              go_simp
              try rw [hV8]
              refine hK.out _ _ (trivial) (fun hHeld => ?_)
              clear hK
              try simp [Act.put]
              refine wpAnyH_done (by kernel_rfl) ?_ _
              clear hHeld yd y3 y6 z6 hV8
              have dwF:=dw6.mono d4
              have plF:=pl6
              clear hT yT zT yF hT9
              have hT:=dwF.2.blk HT0.out (by decide)
              have yT:V8.cell? ⟨w.heap.size,0,none⟩=some (.slice none 0 0):=by rw [Lib.cell_of_heap hT];rfl
              have zT:V8.frozen? ⟨w.heap.size,0,none⟩=false:=by simp [World.frozen?,hT]
              have yF:=plF.cell
              have hT9:(V8.setCell ⟨w.heap.size,0,none⟩ (.slice a6 n6 c6)).cell? ⟨w.heap.size,0,none⟩=some (.slice a6 n6 c6):=by rw [Lib.cell_of_heap (Gn.set_same hT)];rfl
              go_wp2_with fail
              exact bodyPost_ret (v:=.agg #[(.slice a6 n6 c6)]) (by simp [results,Tryz.results12,go_sem,hT9]) rfl (Gn.pl_end dwF plF HF0.out hT hV0w hRw hu6)
end Go.Proofs.YtkikhpppkpelfaaGreat
