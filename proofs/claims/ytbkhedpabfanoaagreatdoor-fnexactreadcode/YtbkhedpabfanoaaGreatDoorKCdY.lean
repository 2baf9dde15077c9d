import Derived.Test.YtbkhedpabfanoaaGreatDoorKCdW
namespace Go.Proofs.YtbkhedpabfanoaaGreatDoor
open Go.RowKit

theorem Cd.ShAt.form {B:Nat} {W:World} {v:Value}:∀ {sh:Cd.Sh},Cd.ShAt B W v sh→∃ st a n c a' n' c',v = .agg #[.int .i64 st,.slice a n c,.slice a' n' c']
  | .none,h=>⟨0,none,0,0,none,0,0,h⟩
  | .clash,h=>⟨2,none,0,0,none,0,0,h⟩
  | .known _ _,h=>by
    obtain ⟨sa,sc,ka,kc,e,_⟩:=h
    exact ⟨1,sa,_,sc,ka,_,kc,e⟩
theorem Cd.own_ne {W:World} {B n O:Nat} {v:Value} {xs:List Value} {cur:Array Value} {fr:Nat × Nat} (h:W.ownsRow B 3 1 v n xs) (ho:W.heap[O]? = some (.cells cur 110 fr)):v.ownBlock≠some O:=fun e=>by
  obtain ⟨_,c2,f2,h2⟩:=Cd.typed.own h (Nat.le_refl _) O e
  rw [ho] at h2
  injection h2 with h2;injection h2 with _ h2;exact absurd h2 (by decide)
structure Cd.Fi (D:World) (O:Nat) (s:List Int) (v1:Value) (W:World):Prop where
  since:Below D.heap.size D W
  le:D.heap.size≤O
  out:W.heap[O]? = some (.cells #[.int .i64 1,v1,.slice none 0 0] 110)
  own:W.ownsRow D.heap.size 3 1 v1 s.length (Cd.ints s)
theorem Cd.Fi.lt {D:World} {O:Nat} {s:List Int} {v1:Value} {W:World} (h:Cd.Fi D O s v1 W):O < W.heap.size:=(Array.getElem?_eq_some_iff.1 h.out).1
theorem Cd.Fi.new {D:World} {s:List Int} {v1:Value} {W:World} (h:Below D.heap.size D W) (hown:W.ownsRow D.heap.size 3 1 v1 s.length (Cd.ints s)):Cd.Fi D W.heap.size s v1 (W.alloc (.cells #[.int .i64 1,v1,.slice none 0 0] 110)) :=
  ⟨Cd.Below.new h _,h.size,Cd.new_at _ _,hown.alloc _⟩
theorem Cd.Fi.set2 {D:World} {O:Nat} {s:List Int} {v1:Value} {W:World} (h:Cd.Fi D O s v1 W):Cd.Fi D O s v1 (W.setCell ⟨O,2,none⟩ (.slice none 0 0)) :=
  ⟨h.since.setCell (p:=⟨O,2,none⟩) h.le _,h.le,(heap_setCell_same W O 2 _ _ _ h.out).trans rfl,ownsRow_setCell_other (a:=⟨O,2,none⟩) h.own (Cd.own_ne h.own h.out) _⟩
theorem Cd.Fi.o {D:World} {O:Nat} {s:List Int} {v1:Value} {W:World} (h:Cd.Fi D O s v1 W):(W.cell? ⟨O,0,none⟩=some (.int .i64 1)∧W.cell? ⟨O,1,none⟩=some v1∧W.cell? ⟨O,2,none⟩=some (.slice none 0 0))∧W.frozen? ⟨O,0,none⟩=false∧W.frozen? ⟨O,1,none⟩=false∧W.frozen? ⟨O,2,none⟩=false:=by
  refine ⟨⟨?_, ?_, ?_⟩, ?_, ?_, ?_⟩
  · rw [Lib.cell_of_heap h.out];rfl
  · rw [Lib.cell_of_heap h.out];rfl
  · rw [Lib.cell_of_heap h.out];rfl
  all_goals simp [World.frozen?,h.out]
theorem Cd.Fi.more {D:World} {O:Nat} {s:List Int} {v1 v':Value} {W w3:World} {o:Obj} {z:Int} (h:Cd.Fi D O s v1 W) (hgrow:(W.alloc o).grownBy w3 v1.ownBlock) (hown:w3.ownsRow D.heap.size 3 1 v' (s.length+[z].length) (Cd.ints (s++[z]))):Cd.Fi D O (s++[z]) v' (w3.setCell ⟨O,1,none⟩ v'):=by
  have hne:=Cd.own_ne h.own h.out
  have h3:=Cd.grown_blk o h.out rfl hgrow hne
  have hown':w3.ownsRow D.heap.size 3 1 v' (s++[z]).length (Cd.ints (s++[z])):=by rw [List.length_append];exact hown
  refine ⟨?_,h.le,(heap_setCell_same w3 O 1 _ _ v' h3).trans rfl,ownsRow_setCell_other (a:=⟨O,1,none⟩) hown' (Cd.own_ne hown' h3) _⟩
  exact (Cd.Below.grown (Cd.Below.new h.since o) hgrow (Nat.le_trans h.since.size (by simp)) (fun k hk=>Cd.rowBlk h.own hk)).setCell (p:=⟨O,1,none⟩) h.le _
def Cd.lenIn (W:World) (O:Nat):Nat:=match W.cell? ⟨O,1,none⟩ with
  | some (.slice _ n _)=>n
  | _=>0
def Cd.ShapesPost (c:List Cd.Fn) (f:Cd.Fn) (w:World) (e:Ending) (w':World):Prop :=
  ∃ g X,e = .returned (.slice (some ⟨g,0,none⟩) f.ins.length f.ins.length)∧Cd.ShsAt g w' X∧Cd.Least c f X∧(∀ u,Cd.stk (Cd.at' X u))∧Below w.heap.size w w'
theorem Tryz.infoShape : (Tryz.prog.info? 110).map (fun i=>(i.zero,i.size,i.bytes))=some (some (.agg #[.int .i64 0,.slice none 0 0,.slice none 0 0]),3,56):=by kernel_rfl
theorem Cd.shape_info : ∃ i,Tryz.prog.info? 110=some i∧i.zero=some (.agg #[.int .i64 0,.slice none 0 0,.slice none 0 0])∧i.size=3∧i.bytes=56:=by
  have h:=Tryz.infoShape
  cases hi:Tryz.prog.info? 110 with
  | none=>rw [hi] at h;simp at h
  | some i=>rw [hi] at h;simp at h;exact ⟨i,rfl,h.1,h.2.1,h.2.2⟩
set_option maxRecDepth 100000 in
set_option maxHeartbeats 4000000 in
theorem Cd.shapes_any (c:List Cd.Fn) (fk:Nat) (hfk:fk < c.length) (f:Cd.Fn) (hf:c[fk]=f) (ca:Option Addr) (cc:Nat) (hcl:c.length≤60) (hfn:Cd.fnOk c fk f=true) (hpl:∀ g ∈ c,g.params.length≤8) (hok:∀ i (h:i < f.ins.length),Cd.insOk c f f.ins[i]=true) (w:World) (hC:Cd.CodeAt w.heap.size w (.slice ca c.length cc) c) :
    Calls Tryz.prog 48 #[.agg #[.slice ca c.length cc],.int .i64 (fk:Int)] w (Cd.ShapesPost c f w):=by
  obtain ⟨b1,b2,b3,b4,b5,b6,-,-,-⟩:=Cd.fnOk_bd hfn
  obtain ⟨gc,cap,pa,pc,ia,ic,ev,hgc,d0,d1,d2,d3,d4,hP,hI⟩:=hC.fn fk hfk
  injection ev with ev1 ev2 ev3
  subst ev1 ev3
  rw [hf] at d0 d1 d2 d3 d4 hP hI
  obtain ⟨gi,rfl⟩:∃ gi,ia=some ⟨gi,0,none⟩:=by
    obtain ⟨a',cp,e,h⟩:=hI
    injection e with e1
    subst e1
    obtain ⟨g,h1,_⟩:=h 0 (by omega)
    exact ⟨g,h1⟩
  have HC:Hid (Cd.CodeAt w.heap.size w (.slice (some ⟨gc,0,none⟩) c.length cc) c):=hC
  have HP:Hid (Cd.IntsAt w.heap.size w (.slice pa f.params.length pc) f.params):=hP
  have HI:Hid (Cd.InsAt w.heap.size w (.slice (some ⟨gi,0,none⟩) f.ins.length ic) f.ins):=hI
  clear hC hP hI hf ev2
  obtain ⟨Y1,hY1⟩:∃ Y,w.alloc (.cells #[.slice (some ⟨gc,0,none⟩) c.length cc] 24)=Y:=⟨_,rfl⟩
  have hb1:Below w.heap.size w Y1:=by rw [← hY1];exact Cd.b1 w _
  have hs1:Y1.heap.size=w.heap.size+1:=by rw [← hY1];exact World.size_alloc _ _
  have p1_0:Y1.heap[w.heap.size]? = some (.cells #[.slice (some ⟨gc,0,none⟩) c.length cc] 24):=by rw [← hY1];exact Cd.new_at w _
  have c0_0:Y1.cell? ⟨w.heap.size,0,none⟩=some (.slice (some ⟨gc,0,none⟩) c.length cc):=by rw [Lib.cell_of_heap p1_0];rfl
  have e0:=(hb1.cell (p:=⟨gc,fk * 5,none⟩) hgc).trans d0
  have e1:=(hb1.cell (p:=⟨gc,fk * 5+1,none⟩) hgc).trans d1
  have e2:=(hb1.cell (p:=⟨gc,fk * 5+2,none⟩) hgc).trans d2
  have e3:=(hb1.cell (p:=⟨gc,fk * 5+3,none⟩) hgc).trans d3
  have e4:=(hb1.cell (p:=⟨gc,fk * 5+4,none⟩) hgc).trans d4
  obtain ⟨Y2,hY2⟩:∃ Y,Y1.alloc (.cells #[.string f.name,.slice pa f.params.length pc,.int .i64 f.result,.int .i64 f.slots,.slice (some ⟨gi,0,none⟩) f.ins.length ic] 37)=Y:=⟨_,rfl⟩
  have hb2:Below w.heap.size w Y2:=by rw [← hY2];exact Cd.Below.new hb1 _
  have hs2:Y2.heap.size=w.heap.size+2:=by rw [← hY2,World.size_alloc];omega
  have p2_0:Y2.heap[w.heap.size]? = some (.cells #[.slice (some ⟨gc,0,none⟩) c.length cc] 24):=by rw [← hY2];exact Cd.keepH _ p1_0
  have p2_1:Y2.heap[w.heap.size+1]? = some (.cells #[.string f.name,.slice pa f.params.length pc,.int .i64 f.result,.int .i64 f.slots,.slice (some ⟨gi,0,none⟩) f.ins.length ic] 37):=by rw [← hY2,← hs1];exact Cd.new_at _ _
  have q1:Y2.cell? ⟨w.heap.size+1,1,none⟩=some (.slice pa f.params.length pc):=by rw [Lib.cell_of_heap p2_1];rfl
  have q3:Y2.cell? ⟨w.heap.size+1,3,none⟩=some (.int .i64 f.slots):=by rw [Lib.cell_of_heap p2_1];rfl
  have q4:Y2.cell? ⟨w.heap.size+1,4,none⟩=some (.slice (some ⟨gi,0,none⟩) f.ins.length ic):=by rw [Lib.cell_of_heap p2_1];rfl
  have hfkI:(fk:Int) < (c.length:Int):=by omega
  clear d0 d1 d2 d3 d4 p1_0
  obtain ⟨i0,hi0,hz0,hz1,hz2⟩:=Cd.int_info
  obtain ⟨i3,hi3,hz3,hz4,hz5⟩:=Cd.shape_info
  go_enter Tryz.func48,Tryz.ntmps48
  go_wp2_with (first
    | (at_make;refine wpList_make_full _ rfl _ _ 107 rfl (w.heap.size+2) 110 i3 (.agg #[.int .i64 0,.slice none 0 0,.slice none 0 0]) 3 Tryz.underlying107 hi3 hz3 hz4 .i64 .i64 _ _ f.ins.length rfl rfl rfl rfl (by rw [hz5];omega) (by unfold maxLen;omega) (Nat.le_of_eq hs2.symm) ?_;intro w0 hown0 hgrow0;have hbD:=(show Below Y2.heap.size Y2 w0 from Cd.Below.grown (Below.refl _ Y2) hgrow0 (Nat.le_refl _) (fun k hk e=>by cases e));obtain ⟨V1,hV1⟩:∃ V,w0.alloc (.cells #[] 3)=V:=⟨_,rfl⟩;have hbV1:=(show Below w0.heap.size w0 V1 from (by rw [← hV1];exact Cd.b1 w0 _));have u1:=((hbD.trans (hbV1.mono hbD.size)).cell (p:=⟨w.heap.size+1,1,none⟩) (by show w.heap.size+1 < _;omega)).trans q1;have HO1:=(show Hid (V1.ownsRow w0.heap.size 3 1 (.slice (some ⟨w0.heap.size,0,none⟩) 0 0) 0 (Cd.ints [])) from (by rw [Hid,← hV1];exact Cd.own_new w0 _ (Nat.le_refl _) _));have HPV:=(show Hid (Cd.IntsAt w.heap.size V1 (.slice pa f.params.length pc) f.params) from HP.out.below (hb2.trans ((hbD.trans (hbV1.mono hbD.size)).mono hb2.size))))
    | (at_builtin;refine Cd.wp_append_ints rfl _ _ 34 rfl w0.heap.size 3 i0 (.int .i64 0) Tryz.underlying34 hi0 hz0 hz1 hz2 rfl (.slice (some ⟨w0.heap.size,0,none⟩) 0 0) 0 [] rfl HO1.out w.heap.size (.slice pa f.params.length pc) rfl f.params HPV.out (by omega) hbV1.size ?_;intro v1 w9 hown9 hg9;rw [Nat.zero_add,List.nil_append] at hown9;obtain ⟨a1,cap1,hv1⟩:=Cd.rowLen hown9;subst hv1;have hb9:=Cd.Below.grown hbV1 hg9 hbV1.size (fun g hg=>Cd.rowBlk HO1.out hg);obtain ⟨V2,hV2⟩:∃ V,w9.alloc (.cells #[.int .i64 1,.slice a1 f.params.length cap1,.slice none 0 0] 110)=V:=⟨_,rfl⟩;have hF2:=(show Cd.Fi w0 w9.heap.size f.params (.slice a1 f.params.length cap1) V2 from (by rw [← hV2];exact Cd.Fi.new hb9 hown9));obtain ⟨⟨t0,t1,t2⟩,k0,k1,k2⟩:=hF2.o))
  obtain ⟨V2s,hV2s⟩:∃ V,V2.setCell ⟨w9.heap.size,2,none⟩ (.slice none 0 0)=V:=⟨_,rfl⟩
  have HF2:Hid (Cd.Fi w0 w9.heap.size f.params (.slice a1 f.params.length cap1) V2s):=by rw [Hid,← hV2s];exact hF2.set2
  have HS0:Hid (Cd.ShsAt (w.heap.size+2) w0 (List.replicate f.ins.length .none)):=by
    have h:=hown0
    rw [hs2] at h
    exact Cd.ShsAt.made h
  have HB0:Hid (Below Y2.heap.size Y2 w0):=hbD
  have HPB:Hid (Y2.heap[w.heap.size]? = some (.cells #[.slice (some ⟨gc,0,none⟩) c.length cc] 24)∧Y2.heap[w.heap.size+1]? = some (.cells #[.string f.name,.slice pa f.params.length pc,.int .i64 f.result,.int .i64 f.slots,.slice (some ⟨gi,0,none⟩) f.ins.length ic] 37)):=⟨p2_0,p2_1⟩
  rw [hV2s]
  clear hown0 hgrow0 hown9 hg9 hb9 hF2 t0 t1 t2 k0 k1 k2 hV2 hV2s hV1 hbV1 u1 HO1 HPV p2_0 p2_1 e0 e1 e2 e3 e4 q1 c0_0 hbD
  go_loopw [] (fun wr => ∃ (j:Nat) (v1:Value),f.params.length+j≤f.slots.toNat∧Cd.Fi w0 w9.heap.size (f.params++List.replicate j 0) v1 wr) (fun wr=>f.slots.toNat - Cd.lenIn wr w9.heap.size)
  case atStart=>exact ⟨0,_,by omega,by simpa using HF2.out⟩
  case round =>
    obtain ⟨j,v1,hj,hF⟩:=hrel
    have HF:Hid (Cd.Fi w0 w9.heap.size (f.params++List.replicate j 0) v1 wr):=hF
    have HL:Hid ((f.params++List.replicate j (0:Int)).length=f.params.length+j):=by rw [Hid,List.length_append,List.length_replicate]
    obtain ⟨a2,cap2,rfl⟩:∃ a cap,v1 = .slice a (f.params.length+j) cap:=by
      obtain ⟨a,cap,h⟩:=Cd.rowLen hF.own
      exact ⟨a,cap,by rw [h,HL.out]⟩
    obtain ⟨⟨t0,t1,t2⟩,k0,k1,k2⟩:=hF.o
    have hbw:=(show Below Y2.heap.size Y2 wr from HB0.out.trans (hF.since.mono HB0.out.size))
    have r3:=(hbw.cell (p:=⟨w.heap.size+1,3,none⟩) (by show w.heap.size+1 < _;omega)).trans q3
    have hlen:Cd.lenIn wr w9.heap.size=f.params.length+j:=by unfold Cd.lenIn;rw [t1]
    have HLT:Hid (w9.heap.size < wr.heap.size):=hF.lt
    clear hF
    by_cases hlt:((f.params.length+j:Nat):Int) < f.slots
    · have t1A:∀ o:Obj,(wr.alloc o).cell? ⟨w9.heap.size,1,none⟩=some (.slice a2 (f.params.length+j) cap2):=fun o=>(((Below.refl _ wr).alloc (Nat.le_refl _) o).cell (p:=⟨w9.heap.size,1,none⟩) HLT.out).trans t1
      go_wp2_with (first | (at_builtin;refine Cd.wp_append_ints rfl _ _ 34 rfl w0.heap.size 3 i0 (.int .i64 0) Tryz.underlying34 hi0 hz0 hz1 hz2 rfl (.slice a2 (f.params.length+j) cap2) (f.params++List.replicate j 0).length (f.params++List.replicate j 0) rfl (HF.out.own.alloc _) (wr.heap.size+1) _ rfl [0] (Cd.IntsAt.new wr [0] 3 1) (by rw [HL.out];simp only [List.length_cons,List.length_nil];omega) (Nat.le_trans HF.out.since.size (by simp)) ?_;intro v' w3 hownO hgrow3;obtain ⟨a3,cap3,hv3⟩:∃ a cap,v' = .slice a (f.params.length+j+1) cap:=(by obtain ⟨a,cap,h⟩:=Cd.rowLen hownO;exact ⟨a,cap,by rw [h,HL.out];rfl⟩);subst hv3;have hblk3:=Cd.grown_blk _ HF.out.out rfl hgrow3 (Cd.own_ne HF.out.own HF.out.out);have c31:=(show w3.cell? ⟨w9.heap.size,1,none⟩=some (.slice a2 (f.params.length+j) cap2) from (by rw [Lib.cell_of_heap hblk3];rfl));have f31:=(show w3.frozen? ⟨w9.heap.size,1,none⟩=false from (by simp [World.frozen?,hblk3]))))
      go_roundw
      case rel =>
        have h:=HF.out.more hgrow3 hownO
        rw [List.append_assoc] at h
        have e:List.replicate j (0:Int)++[0]=List.replicate (j+1) 0:=by rw [List.replicate_succ']
        rw [e] at h
        exact ⟨j+1,_,by omega,h⟩
      case measure =>
        have h:=(HF.out.more hgrow3 hownO).o.1.2.1
        rw [hlen]
        have h2:Cd.lenIn (w3.setCell ⟨w9.heap.size,1,none⟩ (.slice a3 (f.params.length+j+1) cap3)) w9.heap.size=f.params.length+j+1:=by
          unfold Cd.lenIn;rw [h]
        rw [h2]
        omega
    · have hsl:f.params++List.replicate j (0:Int)=Cd.firstS f:=by
        unfold Cd.firstS
        have:j=f.slots.toNat - f.params.length:=by omega
        rw [this]
      have HSF:Hid (Cd.Fi w0 w9.heap.size (Cd.firstS f) (.slice a2 (f.params.length+j) cap2) wr):=by rw [Hid,← hsl];exact HF.out
      have HFL:Hid (f.params.length+j=(Cd.firstS f).length):=by rw [Hid,← hsl];exact HL.out.symm
      have HSR:Hid (Cd.ShsAt (w.heap.size+2) wr (List.replicate f.ins.length .none)):=HS0.out.below HF.out.since
      obtain ⟨n,HN⟩:∃ n,Hid (f.ins.length=n):=⟨_,(rfl:f.ins.length=_)⟩
      have fz0:=HSR.out.froz 0;have fz1:=HSR.out.froz 1;have fz2:=HSR.out.froz 2
      obtain ⟨st',sa',sl',sc',ka',kl',kc',g0,g1,g2,-⟩:=HSR.out.each 0 (by rw [List.length_replicate];omega)
      simp only [Nat.zero_mul,Nat.zero_add] at g0 g1 g2
      have hn1:(0:Int) < (f.ins.length:Int):=by omega
      clear hsl
      go_wp2_with fail
      obtain ⟨W1,hW1⟩:∃ W,(((wr.setCell ⟨w.heap.size+2,0,none⟩ (.int .i64 1)).setCell ⟨w.heap.size+2,1,none⟩ (.slice a2 (f.params.length+j) cap2)).setCell ⟨w.heap.size+2,2,none⟩ (.slice none 0 0))=W:=⟨_,rfl⟩
      have HSL:Hid (Cd.Sl w #[.slice (some ⟨gc,0,none⟩) c.length cc] #[.string f.name,.slice pa f.params.length pc,.int .i64 f.result,.int .i64 f.slots,.slice (some ⟨gi,0,none⟩) f.ins.length ic] ((List.replicate f.ins.length Cd.Sh.none).set 0 (.known (Cd.firstS f) [])) W1):=by
        have h0:Cd.Sl w #[.slice (some ⟨gc,0,none⟩) c.length cc] #[.string f.name,.slice pa f.params.length pc,.int .i64 f.result,.int .i64 f.slots,.slice (some ⟨gi,0,none⟩) f.ins.length ic] (List.replicate f.ins.length Cd.Sh.none) wr:=⟨hb2.trans (hbw.mono hb2.size),(hbw.block _ (by omega)).trans HPB.out.1,(hbw.block _ (by omega)).trans HPB.out.2,HSR.out⟩
        have hsh:Cd.ShAt wr.heap.size wr (Cd.shV 1 (.slice a2 (f.params.length+j) cap2) (.slice none 0 0)) (.known (Cd.firstS f) []):=by
          rw [HFL.out]
          have ho:=HSF.out.own
          rw [HFL.out] at ho
          exact ⟨a2,cap2,none,0,rfl,Nat.le_refl _,.inl ⟨rfl,rfl⟩,Cd.IntsAt.own ho (Nat.le_refl _),⟨none,0,rfl,fun i hi=>by simp at hi⟩,Cd.typed.own ho (Nat.le_refl _),Cd.typed.nil _ _⟩
        have h:=h0.store 0 (by rw [List.length_replicate];omega) hsh
        unfold Cd.set3 at h
        simp only [Nat.zero_mul,Nat.zero_add] at h
        rw [hW1] at h
        exact h
      have HRD:Hid (Cd.Rd (Cd.sys c f) ((List.replicate f.ins.length Cd.Sh.none).set 0 (.known (Cd.firstS f) [])) ((List.replicate f.ins.length Cd.Sh.none).set 0 (.known (Cd.firstS f) [])) false 0):=Cd.Rd.begin (Cd.sys c f) (by show 0 < f.ins.length;omega) (Nat.zero_le 600)
      rw [hW1]
      clear hW1 HSF HFL HSR fz0 fz1 fz2 g0 g1 g2 hn1 HF HL HLT t0 t1 t2 k0 k1 k2 r3 hlen hbw HF2 HS0 HB0 HPB hb1 hb2 hs1 hs2 hY1 hY2 q3 q4 hj hlt HN hi0 hz0 hz1 hz2 hi3 hz3 hz4 hz5
      go_loopw [8] (fun ta wz => ∃ (X:List Cd.Sh) (ag:Bool),ta = .bool ag∧Cd.Sl w #[.slice (some ⟨gc,0,none⟩) c.length cc] #[.string f.name,.slice pa f.params.length pc,.int .i64 f.result,.int .i64 f.slots,.slice (some ⟨gi,0,none⟩) f.ins.length ic] X wz∧Cd.Rd (Cd.sys c f) X X false 0∧(ag=false→Cd.Fix (Cd.sys c f) X)) (fun ta wz=>match ta with | .bool true=>1+((Cd.sys c f).n * ((Cd.sys c f).m+2) - Cd.sum (Cd.sys c f).m (Classical.epsilon (fun Y=>Cd.ShsAt (w.heap.size+2) wz Y))) | _=>0)
      case atStart=>exact ⟨_,true,rfl,HSL.out,HRD.out,fun e=>by simp at e⟩
      case round =>
        obtain ⟨X,ag,rfl,hSL,hRD,hFX⟩:=hrel
        cases ag with
        | false =>
          have HFX:Hid (Cd.Fix (Cd.sys c f) X):=hFX rfl
          clear hFX
          go_wp2_with fail
          go_ret
          exact ⟨w.heap.size+2,X,rfl,hSL.shs,⟨hRD.low,HFX.out⟩,hRD.stk,hSL.since⟩
        | true =>
          have HSX:Hid (Cd.Sl w #[.slice (some ⟨gc,0,none⟩) c.length cc] #[.string f.name,.slice pa f.params.length pc,.int .i64 f.result,.int .i64 f.slots,.slice (some ⟨gi,0,none⟩) f.ins.length ic] X wr):=hSL
          have HRX:Hid (Cd.Rd (Cd.sys c f) X X false 0):=hRD
          clear hSL hRD hFX HSL HRD
          go_wp2_with fail
          go_loopw [8,9] (fun ta ti wy => ∃ (X2:List Cd.Sh) (ag:Bool) (i:Nat),i≤f.ins.length∧ta = .bool ag∧ti = .int .i64 (i:Int)∧Cd.Sl w #[.slice (some ⟨gc,0,none⟩) c.length cc] #[.string f.name,.slice pa f.params.length pc,.int .i64 f.result,.int .i64 f.slots,.slice (some ⟨gi,0,none⟩) f.ins.length ic] X2 wy∧Cd.Rd (Cd.sys c f) X X2 ag i) (fun _ ti _=>f.ins.length - (intOf ti).toNat)
          case atStart=>exact ⟨X,false,0,by omega,rfl,rfl,HSX.out,HRX.out⟩
          case round =>
            obtain ⟨X2,ag,i,hi,rfl,rfl,hSL,hRD⟩:=hrel
            have HS2:Hid (Cd.Sl w #[.slice (some ⟨gc,0,none⟩) c.length cc] #[.string f.name,.slice pa f.params.length pc,.int .i64 f.result,.int .i64 f.slots,.slice (some ⟨gi,0,none⟩) f.ins.length ic] X2 wr):=hSL
            have HR2:Hid (Cd.Rd (Cd.sys c f) X X2 ag i):=hRD
            have HXL:Hid (X2.length=f.ins.length):=hRD.low.size
            clear hSL hRD
            by_cases hlt:i < f.ins.length
            · have hltI:(i:Int) < (f.ins.length:Int):=by omega
              obtain ⟨st,sa,sl,sc,ka,kl,kc,g0,g1,g2,HSH⟩:∃ st sa sl sc ka kl kc,wr.cell? ⟨w.heap.size+2,i * 3,none⟩=some (.int .i64 st)∧wr.cell? ⟨w.heap.size+2,i * 3+1,none⟩=some (.slice sa sl sc)∧wr.cell? ⟨w.heap.size+2,i * 3+2,none⟩=some (.slice ka kl kc)∧Hid (Cd.ShAt wr.heap.size wr (Cd.shV st (.slice sa sl sc) (.slice ka kl kc)) (Cd.at' X2 i)):=by
                have hl2:i < X2.length:=by rw [HXL.out];exact hlt
                have h:=HS2.out.shs.each i hl2
                rw [← Cd.at_get hl2] at h
                exact h
              by_cases hst:st=0
              · subst hst
                have HN0:Hid (Cd.at' X2 i = .none):=HSH.out.state.1.1 rfl
                go_wp2_with fail
                go_roundw
                case rel=>exact ⟨X2,ag,i+1,by omega,rfl,by go_num,HS2.out,HR2.out.none HN0.out⟩
                case measure=>simp [intOf];omega
              · have hstb:(st == 0)=false:=by simp [hst]
                have HNN:Hid (Cd.at' X2 i ≠ .none):=fun e=>hst (HSH.out.state.1.2 e)
                clear hst
                have HKW:Hid (∀ W,Below wr.heap.size wr W→W.cell? ⟨w.heap.size,0,none⟩=some (.slice (some ⟨gc,0,none⟩) c.length cc)∧(W.cell? ⟨w.heap.size+1,0,none⟩=some (.string f.name)∧W.cell? ⟨w.heap.size+1,1,none⟩=some (.slice pa f.params.length pc)∧W.cell? ⟨w.heap.size+1,2,none⟩=some (.int .i64 f.result)∧W.cell? ⟨w.heap.size+1,3,none⟩=some (.int .i64 f.slots)∧W.cell? ⟨w.heap.size+1,4,none⟩=some (.slice (some ⟨gi,0,none⟩) f.ins.length ic))∧W.cell? ⟨w.heap.size+2,i * 3,none⟩=some (.int .i64 st)∧W.cell? ⟨w.heap.size+2,i * 3+1,none⟩=some (.slice sa sl sc)∧W.cell? ⟨w.heap.size+2,i * 3+2,none⟩=some (.slice ka kl kc)):=fun W hW=>by
                  have h:=HS2.out.below hW
                  have hl:=HS2.out.shs.lt
                  refine ⟨by rw [Lib.cell_of_heap h.cod];rfl,⟨by rw [Lib.cell_of_heap h.fnb];rfl,by rw [Lib.cell_of_heap h.fnb];rfl,by rw [Lib.cell_of_heap h.fnb];rfl,by rw [Lib.cell_of_heap h.fnb];rfl,by rw [Lib.cell_of_heap h.fnb];rfl⟩,(hW.cell (p:=⟨w.heap.size+2,i * 3,none⟩) hl).trans g0,(hW.cell (p:=⟨w.heap.size+2,i * 3+1,none⟩) hl).trans g1,(hW.cell (p:=⟨w.heap.size+2,i * 3+2,none⟩) hl).trans g2⟩
                obtain ⟨b,HBE⟩:∃ b,Hid (Cd.behind c f i (Cd.at' X2 i)=b):=⟨_,(rfl:Cd.behind c f i (Cd.at' X2 i)=_)⟩
                have HBA:Hid (∀ W,Below wr.heap.size wr W→Calls Tryz.prog 49 #[.agg #[.slice (some ⟨gc,0,none⟩) c.length cc],.agg #[.string f.name,.slice pa f.params.length pc,.int .i64 f.result,.int .i64 f.slots,.slice (some ⟨gi,0,none⟩) f.ins.length ic],.int .i64 (i:Int),.agg #[.int .i64 st,.slice sa sl sc,.slice ka kl kc]] W fun e w'=>(∃ v,e = .returned v∧Cd.ShAt w'.heap.size w' v b)∧Below W.heap.size W w'):=fun W hW=>by
                  have h:=HS2.out.below hW
                  have hsn:=h.since
                  have hb:=Cd.behind_any c f i hlt (some ⟨gc,0,none⟩) (some ⟨gi,0,none⟩) cc ic (.slice pa f.params.length pc) (Cd.shV st (.slice sa sl sc) (.slice ka kl kc)) (Cd.at' X2 i) hcl (by omega) b1 b2 hpl (hok i hlt) (by rw [← Cd.firstS_len f b6];exact HR2.out.low.lens i) (HR2.out.stk i) W (Cd.CodeAt.mono (HC.out.below hsn) hsn.size) (Cd.InsAt.mono (HI.out.below hsn) hsn.size) ((HSH.out.below hW).mono hW.size)
                  rw [HBE.out] at hb
                  exact hb
                have HIC:Hid (∀ W,Below w.heap.size w W→W.cell? ⟨gi,i * 4,none⟩=some (.int .i64 f.ins[i].op)∧W.cell? ⟨gi,i * 4+1,none⟩=some (.int .i64 f.ins[i].a)∧W.cell? ⟨gi,i * 4+2,none⟩=some (.int .i64 f.ins[i].n)∧W.cell? ⟨gi,i * 4+3,none⟩=some (.string f.ins[i].text)):=fun W hW=>by
                  obtain ⟨a',cp,e,h⟩:=HI.out.below hW
                  injection e with e1
                  subst e1
                  obtain ⟨g,h1,_,h2⟩:=h i hlt
                  injection h1 with h1;injection h1 with h1
                  subst h1
                  exact ⟨h2 0 (by omega),h2 1 (by omega),h2 2 (by omega),h2 3 (by omega)⟩
                have hjmp:=Cd.insOk_jump (hok i hlt)
                obtain ⟨ix,HIX⟩:∃ x,Hid (f.ins[i]=x):=⟨_,(rfl:f.ins[i]=_)⟩
                have HGS:Hid ((Cd.sys c f).goes i=Cd.goes ix i):=by
                  show Cd.goes (f.ins.getD i Cd.noIns) i=_
                  rw [List.getD_eq_getElem?_getD,List.getElem?_eq_getElem hlt,← HIX.out];rfl
                rw [HIX.out] at HIC hjmp
                obtain ⟨gl,HGL⟩:∃ g,Hid (Cd.goes ix i=g):=⟨_,(rfl:Cd.goes ix i=_)⟩
                have hgl2:gl.length≤2:=by rw [← HGL.out];exact Cd.goes_len ix i
                have HRK:Hid (Cd.Rk (Cd.sys c f) X X2 ag i b gl 0):=by
                  have h:=Cd.Rk.start HR2.out hlt HNN.out (by show Cd.stk (Cd.behind c f i (Cd.at' X2 i));exact Cd.behind_stk c f i _)
                  rw [HGS.out,HGL.out] at h
                  have e:(Cd.sys c f).left i (Cd.at' X2 i)=b:=HBE.out
                  rw [e] at h
                  exact h
                go_wp2_with fail
                obtain ⟨l0,⟨l1,l2,l3,l4,l5⟩,l6,l7,l8⟩:=HKW.out wr (Below.refl _ _)
                go_region_held3 (fun W=>W.cell? ⟨w.heap.size,0,none⟩=some (.slice (some ⟨gc,0,none⟩) c.length cc)∧(W.cell? ⟨w.heap.size+1,0,none⟩=some (.string f.name)∧W.cell? ⟨w.heap.size+1,1,none⟩=some (.slice pa f.params.length pc)∧W.cell? ⟨w.heap.size+1,2,none⟩=some (.int .i64 f.result)∧W.cell? ⟨w.heap.size+1,3,none⟩=some (.int .i64 f.slots)∧W.cell? ⟨w.heap.size+1,4,none⟩=some (.slice (some ⟨gi,0,none⟩) f.ins.length ic))∧W.cell? ⟨w.heap.size+2,i * 3,none⟩=some (.int .i64 st)∧W.cell? ⟨w.heap.size+2,i * 3+1,none⟩=some (.slice sa sl sc)∧W.cell? ⟨w.heap.size+2,i * 3+2,none⟩=some (.slice ka kl kc)) (first | exact HKW.out _ (Below.refl _ _) | exact HKW.out _ (Cd.b1 _ _) | exact HKW.out _ hb7' | exact HKW.out _ (Cd.Below.new hb7' _) | exact HKW.out _ (((hb7'.setCell (p:=⟨wr.heap.size,0,none⟩) (Nat.le_refl _) _).setCell (p:=⟨wr.heap.size,1,none⟩) (Nat.le_refl _) _).setCell (p:=⟨wr.heap.size,2,none⟩) (Nat.le_refl _) _) | exact HKW.out _ (by repeat (first | exact Below.refl _ _ | apply Below.drew | (refine Below.alloc ?_ (by simp) _)))) (first | (go_at_call 49;refine (HBA.out _ (by repeat (first | exact Below.refl _ _ | apply Below.drew | (refine Below.alloc ?_ (by simp) _)))).mono ?_;rintro e w7 ⟨⟨v,rfl,hv⟩,hb7⟩;obtain ⟨st',xa,xn,xc,ya,yn,yc,hv7⟩:=hv.form;subst hv7;have hb7':=(show Below wr.heap.size wr w7 from Below.trans (by repeat (first | exact Below.refl _ _ | apply Below.drew | (refine Below.alloc ?_ (by simp) _))) (hb7.mono (by simp)));try (have hz7:=(show w7.heap[wr.heap.size]? = some (.cells #[.int .i64 0,.slice none 0 0,.slice none 0 0] 110) from (hb7.block _ (by simp)).trans (Cd.new_at wr _));have z70:=(show w7.cell? ⟨wr.heap.size,0,none⟩=some (.int .i64 0) from (by rw [Lib.cell_of_heap hz7];rfl));have z71:=(show w7.cell? ⟨wr.heap.size,1,none⟩=some (.slice none 0 0) from (by rw [Lib.cell_of_heap hz7];rfl));have z72:=(show w7.cell? ⟨wr.heap.size,2,none⟩=some (.slice none 0 0) from (by rw [Lib.cell_of_heap hz7];rfl));have y70:=(show w7.frozen? ⟨wr.heap.size,0,none⟩=false from (by simp [World.frozen?,hz7]));have y71:=(show w7.frozen? ⟨wr.heap.size,1,none⟩=false from (by simp [World.frozen?,hz7]));have y72:=(show w7.frozen? ⟨wr.heap.size,2,none⟩=false from (by simp [World.frozen?,hz7])))))
                · obtain ⟨Os,hOs⟩:∃ O,O=w7.heap.size:=⟨_,rfl⟩
                  obtain ⟨W2,hW2⟩:∃ W,w7.alloc (.cells #[.int .i64 st',.slice xa xn xc,.slice ya yn yc] 110)=W:=⟨_,rfl⟩
                  have HOS:Hid (W2.heap[Os]? = some (.cells #[.int .i64 st',.slice xa xn xc,.slice ya yn yc] 110)):=by rw [Hid,← hW2,hOs];exact Cd.new_at _ _
                  have HSL2:Hid (Cd.Sl w #[.slice (some ⟨gc,0,none⟩) c.length cc] #[.string f.name,.slice pa f.params.length pc,.int .i64 f.result,.int .i64 f.slots,.slice (some ⟨gi,0,none⟩) f.ins.length ic] X2 W2):=by rw [Hid,← hW2];exact (HS2.out.below hb7').alloc _
                  have HSB:Hid (Cd.ShAt W2.heap.size W2 (.agg #[.int .i64 st',.slice xa xn xc,.slice ya yn yc]) b):=by rw [Hid,← hW2];exact (hv.below (Cd.b1 w7 _)).mono (Cd.b1 w7 _).size
                  have HON:Hid (w.heap.size+2 < Os):=by rw [Hid,hOs];exact (HS2.out.below hb7').shs.lt
                  rw [hW2,← hOs]
                  clear hW2 hOs hv hb7 hb7'
                  clear HKW HBA l0 l1 l2 l3 l4 l5 l6 l7 l8 g0 g1 g2 HSH HS2 HR2 hstb HNN HBE
                  have q4:W2.cell? ⟨w.heap.size+1,4,none⟩=some (.slice (some ⟨gi,0,none⟩) f.ins.length ic):=by rw [Lib.cell_of_heap HSL2.out.fnb];rfl
                  obtain ⟨v0,v1,v2,v3⟩:=HIC.out W2 HSL2.out.since
                  go_wp2_with (first | (go_at_call 63;refine (Cd.goes_new ix i (by omega) (fun h=>(hjmp h).1) W2).mono ?_;rintro e w8 ⟨gn,cg,rfl,hgv,hb8,hg8⟩))
                  obtain ⟨Og,HOG⟩:∃ O,Hid (O=W2.heap.size+1):=⟨_,(rfl:_=W2.heap.size+1)⟩
                  have hgn:gn=gl.length:=by
                    obtain ⟨_,_,e,_⟩:=hgv
                    injection e with _ e _
                    rw [e,HGL.out];simp [Cd.nats]
                  subst hgn
                  have HGC:Hid (∀ j (hj:j < gl.length),Og < w8.heap.size∧w8.cell? ⟨Og,j,none⟩=some (.int .i64 ((gl[j]:Nat):Int))):=fun j hj=>by
                    obtain ⟨_,_,e,hc⟩:=hgv
                    injection e with e1 _ _
                    subst e1
                    obtain ⟨g,o,e2,h3,h4⟩:=hc j (by rw [HGL.out];simpa [Cd.nats] using hj)
                    injection e2 with e2;injection e2 with e5 e6
                    subst e5 e6
                    rw [Nat.zero_add] at h4
                    refine ⟨by rw [HOG.out];exact h3,by rw [HOG.out,h4];simp [Cd.nats,HGL.out]⟩
                  rw [← HOG.out]
                  obtain ⟨go,HKT0⟩:∃ go,Hid (Cd.Kt w #[.slice (some ⟨gc,0,none⟩) c.length cc] #[.string f.name,.slice pa f.params.length pc,.int .i64 f.result,.int .i64 f.slots,.slice (some ⟨gi,0,none⟩) f.ins.length ic] (Cd.sys c f) X X2 ag i b gl 0 Os Og (.cells #[.int .i64 st',.slice xa xn xc,.slice ya yn yc] 110) go (.agg #[.int .i64 st',.slice xa xn xc,.slice ya yn yc]) w8):=⟨_,HSL2.out.below hb8,HRK.out,(hb8.block _ (Array.getElem?_eq_some_iff.1 HOS.out).1).trans HOS.out,Array.getElem?_eq_getElem (by rw [HOG.out];exact hg8),(HSB.out.below hb8).mono hb8.size⟩
                  have HOGN:Hid (w.heap.size+2 < Og):=by rw [Hid,HOG.out];have:=HSL2.out.shs.lt;omega
                  have HGC2:Hid (∀ W:World,W.heap[Og]? = some go→∀ j (hj:j < gl.length),W.cell? ⟨Og,j,none⟩=some (.int .i64 ((gl[j]:Nat):Int))):=fun W hW j hj=>(World.cell?_of_block (a:=⟨Og,j,none⟩) (hW.trans HKT0.out.og.symm)).trans (HGC.out j hj).2
                  have HGLS:Hid ((Cd.sys c f).goes i=gl):=HGS.out.trans HGL.out
                  clear hgv hb8 hg8 HGC HOG HSL2 HOS HSB HRK v0 v1 v2 v3 q4 HIC hjmp HGL
                  go_loopw [8,12] (fun ta tk wx => ∃ (X3:List Cd.Sh) (ag3:Bool) (k:Nat),k≤gl.length∧ta = .bool ag3∧tk = .int .i64 (k:Int)∧Cd.Kt w #[.slice (some ⟨gc,0,none⟩) c.length cc] #[.string f.name,.slice pa f.params.length pc,.int .i64 f.result,.int .i64 f.slots,.slice (some ⟨gi,0,none⟩) f.ins.length ic] (Cd.sys c f) X X3 ag3 i b gl k Os Og (.cells #[.int .i64 st',.slice xa xn xc,.slice ya yn yc] 110) go (.agg #[.int .i64 st',.slice xa xn xc,.slice ya yn yc]) wx) (fun _ tk _=>gl.length - (intOf tk).toNat)
                  case atStart=>exact ⟨X2,ag,0,by omega,rfl,rfl,HKT0.out⟩
                  case round =>
                    obtain ⟨X3,ag3,k,hk,rfl,rfl,hKT⟩:=hrel
                    have HKT:Hid (Cd.Kt w #[.slice (some ⟨gc,0,none⟩) c.length cc] #[.string f.name,.slice pa f.params.length pc,.int .i64 f.result,.int .i64 f.slots,.slice (some ⟨gi,0,none⟩) f.ins.length ic] (Cd.sys c f) X X3 ag3 i b gl k Os Og (.cells #[.int .i64 st',.slice xa xn xc,.slice ya yn yc] 110) go (.agg #[.int .i64 st',.slice xa xn xc,.slice ya yn yc]) wr):=hKT
                    clear hKT
                    by_cases hkl:k < gl.length
                    · have hklI:(k:Int) < (gl.length:Int):=by omega
                      have d0:=HGC2.out wr HKT.out.og k hkl
                      obtain ⟨gk,HGK⟩:∃ g,Hid (gl[k]=g):=⟨_,(rfl:gl[k]=_)⟩
                      rw [HGK.out] at d0
                      by_cases hgn:gk < f.ins.length
                      · have hgnI:(gk:Int) < (f.ins.length:Int):=by omega
                        have HX3L:Hid (X3.length=f.ins.length):=HKT.out.rk.rd.low.size
                        obtain ⟨st2,sa2,sl2,sc2,ka2,kl2,kc2,g0,g1,g2,HSH⟩:∃ st sa sl sc ka kl kc,wr.cell? ⟨w.heap.size+2,gk * 3,none⟩=some (.int .i64 st)∧wr.cell? ⟨w.heap.size+2,gk * 3+1,none⟩=some (.slice sa sl sc)∧wr.cell? ⟨w.heap.size+2,gk * 3+2,none⟩=some (.slice ka kl kc)∧Hid (Cd.ShAt wr.heap.size wr (Cd.shV st (.slice sa sl sc) (.slice ka kl kc)) (Cd.at' X3 gk)):=by
                          have hl2:gk < X3.length:=by rw [HX3L.out];exact hgn
                          have h:=HKT.out.sl.shs.each gk hl2
                          rw [← Cd.at_get hl2] at h
                          exact h
                        have HKW:Hid (∀ W,Below wr.heap.size wr W→W.cell? ⟨Og,k,none⟩=some (.int .i64 (gk:Int))∧(W.cell? ⟨w.heap.size+2,gk * 3,none⟩=some (.int .i64 st2)∧W.cell? ⟨w.heap.size+2,gk * 3+1,none⟩=some (.slice sa2 sl2 sc2)∧W.cell? ⟨w.heap.size+2,gk * 3+2,none⟩=some (.slice ka2 kl2 kc2))∧W.cell? ⟨Os,0,none⟩=some (.int .i64 st')∧W.cell? ⟨Os,1,none⟩=some (.slice xa xn xc)∧W.cell? ⟨Os,2,none⟩=some (.slice ya yn yc)):=fun W hW=>by
                          have h:=HKT.out.below hW
                          have hl:=HKT.out.sl.shs.lt
                          refine ⟨by rw [← HGK.out];exact HGC2.out W h.og k hkl,⟨(hW.cell (p:=⟨w.heap.size+2,gk * 3,none⟩) hl).trans g0,(hW.cell (p:=⟨w.heap.size+2,gk * 3+1,none⟩) hl).trans g1,(hW.cell (p:=⟨w.heap.size+2,gk * 3+2,none⟩) hl).trans g2⟩,by rw [Lib.cell_of_heap h.os];rfl,by rw [Lib.cell_of_heap h.os];rfl,by rw [Lib.cell_of_heap h.os];rfl⟩
                        obtain ⟨jn,HJN⟩:∃ j,Hid (Cd.join (Cd.at' X3 gk) b=j):=⟨_,(rfl:Cd.join (Cd.at' X3 gk) b=_)⟩
                        obtain ⟨ch,HCH⟩:∃ c,Hid (decide (Cd.join (Cd.at' X3 gk) b≠Cd.at' X3 gk)=c):=⟨_,rfl⟩
                        have HJ:Hid (∀ W,Below wr.heap.size wr W→Calls Tryz.prog 64 #[.agg #[.int .i64 st2,.slice sa2 sl2 sc2,.slice ka2 kl2 kc2],.agg #[.int .i64 st',.slice xa xn xc,.slice ya yn yc]] W fun e w'=>(∃ v,e = .returned (.tuple #[v,.bool ch])∧Cd.ShAt w'.heap.size w' v jn)∧Below W.heap.size W w'):=fun W hW=>by
                          have h:=HKT.out.below hW
                          have hj:=Cd.join_any (Cd.sys c f).m (by show (Cd.firstS f).length≤200;rw [Cd.firstS_len f b6];omega) (Cd.at' X3 gk) b (Cd.shV st2 (.slice sa2 sl2 sc2) (.slice ka2 kl2 kc2)) (.agg #[.int .i64 st',.slice xa xn xc,.slice ya yn yc]) (h.rk.rd.low.lens gk) h.rk.blen (h.rk.rd.stk gk) h.rk.bstk W ((HSH.out.below hW).mono hW.size) h.sb
                          rw [HCH.out,HJN.out] at hj
                          exact hj
                        go_wp2_with fail
                        obtain ⟨l0,⟨l1,l2,l3⟩,l4,l5,l6⟩:=HKW.out wr (Below.refl _ _)
                        go_region_held3 (fun W=>W.cell? ⟨Og,k,none⟩=some (.int .i64 (gk:Int))∧(W.cell? ⟨w.heap.size+2,gk * 3,none⟩=some (.int .i64 st2)∧W.cell? ⟨w.heap.size+2,gk * 3+1,none⟩=some (.slice sa2 sl2 sc2)∧W.cell? ⟨w.heap.size+2,gk * 3+2,none⟩=some (.slice ka2 kl2 kc2))∧W.cell? ⟨Os,0,none⟩=some (.int .i64 st')∧W.cell? ⟨Os,1,none⟩=some (.slice xa xn xc)∧W.cell? ⟨Os,2,none⟩=some (.slice ya yn yc)) (first | exact HKW.out _ (Below.refl _ _) | exact HKW.out _ (Cd.b1 _ _) | exact HKW.out _ hb7' | exact HKW.out _ (Cd.Below.new hb7' _) | exact HKW.out _ (((hb7'.setCell (p:=⟨wr.heap.size,0,none⟩) (Nat.le_refl _) _).setCell (p:=⟨wr.heap.size,1,none⟩) (Nat.le_refl _) _).setCell (p:=⟨wr.heap.size,2,none⟩) (Nat.le_refl _) _) | exact HKW.out _ (by repeat (first | exact Below.refl _ _ | apply Below.drew | (refine Below.alloc ?_ (by simp) _)))) (first | (go_at_call 64;refine (HJ.out _ (by repeat (first | exact Below.refl _ _ | apply Below.drew | (refine Below.alloc ?_ (by simp) _)))).mono ?_;rintro e w7 ⟨⟨v,rfl,hv⟩,hb7⟩;obtain ⟨st3,pa3,pn3,pc3,qa3,qn3,qc3,hv7⟩:=hv.form;subst hv7;have hb7':=(show Below wr.heap.size wr w7 from Below.trans (by repeat (first | exact Below.refl _ _ | apply Below.drew | (refine Below.alloc ?_ (by simp) _))) (hb7.mono (by simp)));try (have hz7:=(show w7.heap[wr.heap.size]? = some (.cells #[.int .i64 0,.slice none 0 0,.slice none 0 0] 110) from (hb7.block _ (by simp)).trans (Cd.new_at wr _));have z70:=(show w7.cell? ⟨wr.heap.size,0,none⟩=some (.int .i64 0) from (by rw [Lib.cell_of_heap hz7];rfl));have z71:=(show w7.cell? ⟨wr.heap.size,1,none⟩=some (.slice none 0 0) from (by rw [Lib.cell_of_heap hz7];rfl));have z72:=(show w7.cell? ⟨wr.heap.size,2,none⟩=some (.slice none 0 0) from (by rw [Lib.cell_of_heap hz7];rfl));have y70:=(show w7.frozen? ⟨wr.heap.size,0,none⟩=false from (by simp [World.frozen?,hz7]));have y71:=(show w7.frozen? ⟨wr.heap.size,1,none⟩=false from (by simp [World.frozen?,hz7]));have y72:=(show w7.frozen? ⟨wr.heap.size,2,none⟩=false from (by simp [World.frozen?,hz7])))))
                        · obtain ⟨Ox,hOx⟩:∃ O,O=w7.heap.size:=⟨_,rfl⟩
                          obtain ⟨W4,hW4⟩:∃ W,w7.alloc (.cells #[.int .i64 st3,.slice pa3 pn3 pc3,.slice qa3 qn3 qc3] 110)=W:=⟨_,rfl⟩
                          have HOX:Hid (W4.heap[Ox]? = some (.cells #[.int .i64 st3,.slice pa3 pn3 pc3,.slice qa3 qn3 qc3] 110)):=by rw [Hid,← hW4,hOx];exact Cd.new_at _ _
                          have HKT4:Hid (Cd.Kt w #[.slice (some ⟨gc,0,none⟩) c.length cc] #[.string f.name,.slice pa f.params.length pc,.int .i64 f.result,.int .i64 f.slots,.slice (some ⟨gi,0,none⟩) f.ins.length ic] (Cd.sys c f) X X3 ag3 i b gl k Os Og (.cells #[.int .i64 st',.slice xa xn xc,.slice ya yn yc] 110) go (.agg #[.int .i64 st',.slice xa xn xc,.slice ya yn yc]) W4):=by rw [Hid,← hW4];exact (HKT.out.below hb7').below (Cd.b1 w7 _)
                          have HSB4:Hid (Cd.ShAt W4.heap.size W4 (Cd.shV st3 (.slice pa3 pn3 pc3) (.slice qa3 qn3 qc3)) jn):=by rw [Hid,← hW4];exact (hv.below (Cd.b1 w7 _)).mono (Cd.b1 w7 _).size
                          have HOXN:Hid (Ox≠w.heap.size+2):=by rw [Hid,hOx];have:=(HKT.out.below hb7').sl.shs.lt;omega
                          rw [hW4,← hOx]
                          clear hW4 hOx hv hb7 hb7'
                          clear HKW HJ l0 l1 l2 l3 l4 l5 l6 g0 g1 g2 HSH d0
                          obtain ⟨W5,hW5⟩:∃ W,(((W4.setCell ⟨w.heap.size+2,gk * 3,none⟩ (.int .i64 st3)).setCell ⟨w.heap.size+2,gk * 3+1,none⟩ (.slice pa3 pn3 pc3)).setCell ⟨w.heap.size+2,gk * 3+2,none⟩ (.slice qa3 qn3 qc3))=W:=⟨_,rfl⟩
                          have HKT5:Hid (Cd.Kt w #[.slice (some ⟨gc,0,none⟩) c.length cc] #[.string f.name,.slice pa f.params.length pc,.int .i64 f.result,.int .i64 f.slots,.slice (some ⟨gi,0,none⟩) f.ins.length ic] (Cd.sys c f) X (X3.set gk jn) (ag3 || ch) i b gl (k+1) Os Og (.cells #[.int .i64 st',.slice xa xn xc,.slice ya yn yc] 110) go (.agg #[.int .i64 st',.slice xa xn xc,.slice ya yn yc]) W5):=by
                            have h:=HKT4.out.step hkl (by show gl[k] < f.ins.length;rw [HGK.out];exact hgn) HON.out HOGN.out (by rw [HGK.out,HJN.out];exact HSB4.out)
                            simp only [HGK.out,HJN.out] at h
                            rw [show decide (jn≠Cd.at' X3 gk)=ch from (by rw [← HJN.out];exact HCH.out)] at h
                            unfold Cd.set3 at h
                            rw [hW5] at h
                            exact h
                          have HOX5:Hid (W5.heap[Ox]? = some (.cells #[.int .i64 st3,.slice pa3 pn3 pc3,.slice qa3 qn3 qc3] 110)):=by
                            rw [Hid,← hW5,Below.heap_setCell _ _ _ _ (by exact HOXN.out),Below.heap_setCell _ _ _ _ (by exact HOXN.out),Below.heap_setCell _ _ _ _ (by exact HOXN.out)]
                            exact HOX.out
                          have m0:W4.cell? ⟨Og,k,none⟩=some (.int .i64 (gk:Int)):=by rw [← HGK.out];exact HGC2.out W4 HKT4.out.og k hkl
                          have m1:W4.cell? ⟨Ox,0,none⟩=some (.int .i64 st3):=by rw [Lib.cell_of_heap HOX.out];rfl
                          have m2:W4.cell? ⟨Ox,1,none⟩=some (.slice pa3 pn3 pc3):=by rw [Lib.cell_of_heap HOX.out];rfl
                          have m3:W4.cell? ⟨Ox,2,none⟩=some (.slice qa3 qn3 qc3):=by rw [Lib.cell_of_heap HOX.out];rfl
                          have n0:W5.cell? ⟨Og,k,none⟩=some (.int .i64 (gk:Int)):=by rw [← HGK.out];exact HGC2.out W5 HKT5.out.og k hkl
                          have n1:W5.cell? ⟨Ox,0,none⟩=some (.int .i64 st3):=by rw [Lib.cell_of_heap HOX5.out];rfl
                          have n2:W5.cell? ⟨Ox,1,none⟩=some (.slice pa3 pn3 pc3):=by rw [Lib.cell_of_heap HOX5.out];rfl
                          have n3:W5.cell? ⟨Ox,2,none⟩=some (.slice qa3 qn3 qc3):=by rw [Lib.cell_of_heap HOX5.out];rfl
                          obtain ⟨st4,sa4,sl4,sc4,ka4,kl4,kc4,g0,g1,g2,-⟩:=HKT4.out.sl.shs.each gk (by rw [HX3L.out];exact hgn)
                          have y0:=HKT4.out.sl.shs.froz (gk * 3);have y1:=HKT4.out.sl.shs.froz (gk * 3+1);have y2:=HKT4.out.sl.shs.froz (gk * 3+2)
                          go_wp2_with fail
                          go_region_held3 (fun W=>W.cell? ⟨Og,k,none⟩=some (.int .i64 (gk:Int))∧W.cell? ⟨Ox,0,none⟩=some (.int .i64 st3)∧W.cell? ⟨Ox,1,none⟩=some (.slice pa3 pn3 pc3)∧W.cell? ⟨Ox,2,none⟩=some (.slice qa3 qn3 qc3)) (first | exact ⟨m0,m1,m2,m3⟩ | exact ⟨n0,n1,n2,n3⟩ | (rw [hW5];exact ⟨n0,n1,n2,n3⟩)) (fail)
                          cases ag3 with
                          | true =>
                            go_wp2_with fail
                            go_roundw
                            case rel=>exact ⟨X3.set gk jn,true,k+1,by omega,rfl,by go_num,HKT5.out.below (Below.refl _ W5).drew⟩
                            case measure=>simp [intOf];omega
                          | false =>
                            go_wp2_with fail
                            go_roundw
                            case rel=>exact ⟨X3.set gk jn,ch,k+1,by omega,rfl,by go_num,HKT5.out.below (Below.refl _ W5).drew⟩
                            case measure=>simp [intOf];omega
                        · obtain ⟨Ox,hOx⟩:∃ O,O=wr.heap.size:=⟨_,rfl⟩
                          obtain ⟨W4,hW4⟩:∃ W,(((w7.setCell ⟨wr.heap.size,0,none⟩ (.int .i64 st3)).setCell ⟨wr.heap.size,1,none⟩ (.slice pa3 pn3 pc3)).setCell ⟨wr.heap.size,2,none⟩ (.slice qa3 qn3 qc3))=W:=⟨_,rfl⟩
                          have h1:=heap_setCell_same w7 wr.heap.size 0 _ _ (.int .i64 st3) hz7
                          have h2:=heap_setCell_same _ wr.heap.size 1 _ _ (.slice pa3 pn3 pc3) h1
                          have h3:=heap_setCell_same _ wr.heap.size 2 _ _ (.slice qa3 qn3 qc3) h2
                          have HOX:Hid (W4.heap[Ox]? = some (.cells #[.int .i64 st3,.slice pa3 pn3 pc3,.slice qa3 qn3 qc3] 110)):=by rw [Hid,← hW4,hOx];exact h3
                          have hlt7:w.heap.size+2 < wr.heap.size:=HKT.out.sl.shs.lt
                          have hns:wr.heap.size≠Os:=fun e=>by have:=(Array.getElem?_eq_some_iff.1 HKT.out.os).1;omega
                          have hng:wr.heap.size≠Og:=fun e=>by have:=(Array.getElem?_eq_some_iff.1 HKT.out.og).1;omega
                          have HKT4:Hid (Cd.Kt w #[.slice (some ⟨gc,0,none⟩) c.length cc] #[.string f.name,.slice pa f.params.length pc,.int .i64 f.result,.int .i64 f.slots,.slice (some ⟨gi,0,none⟩) f.ins.length ic] (Cd.sys c f) X X3 ag3 i b gl k Os Og (.cells #[.int .i64 st',.slice xa xn xc,.slice ya yn yc] 110) go (.agg #[.int .i64 st',.slice xa xn xc,.slice ya yn yc]) W4):=by
                            rw [Hid,← hW4]
                            exact (((HKT.out.below hb7').set wr.heap.size 0 _ hlt7 hns hng ⟨_,hz7⟩).set wr.heap.size 1 _ hlt7 hns hng ⟨_,h1⟩).set wr.heap.size 2 _ hlt7 hns hng ⟨_,h2⟩
                          have HSB4:Hid (Cd.ShAt W4.heap.size W4 (Cd.shV st3 (.slice pa3 pn3 pc3) (.slice qa3 qn3 qc3)) jn):=by
                            rw [Hid,← hW4]
                            refine (show Cd.ShAt _ _ (Cd.shV st3 (.slice pa3 pn3 pc3) (.slice qa3 qn3 qc3)) _ from hv).keep (by simp) (fun st'' sv'' kv'' e k hk => ?_)
                            obtain ⟨_,rfl,rfl⟩:=Cd.shV_inj e
                            have hne:k≠wr.heap.size:=Cd.ShAt.off hz7 (show Cd.ShAt _ _ (Cd.shV st3 (.slice pa3 pn3 pc3) (.slice qa3 qn3 qc3)) _ from hv) k hk
                            rw [Below.heap_setCell _ _ _ _ (by exact hne),Below.heap_setCell _ _ _ _ (by exact hne),Below.heap_setCell _ _ _ _ (by exact hne)]
                          have HOXN:Hid (Ox≠w.heap.size+2):=by rw [Hid,hOx];omega
                          rw [hW4,← hOx]
                          clear hW4 hOx hv hb7 hb7' h1 h2 h3 hz7 z70 z71 z72 y70 y71 y72 hlt7 hns hng
                          clear HKW HJ l0 l1 l2 l3 l4 l5 l6 g0 g1 g2 HSH d0
                          obtain ⟨W5,hW5⟩:∃ W,(((W4.setCell ⟨w.heap.size+2,gk * 3,none⟩ (.int .i64 st3)).setCell ⟨w.heap.size+2,gk * 3+1,none⟩ (.slice pa3 pn3 pc3)).setCell ⟨w.heap.size+2,gk * 3+2,none⟩ (.slice qa3 qn3 qc3))=W:=⟨_,rfl⟩
                          have HKT5:Hid (Cd.Kt w #[.slice (some ⟨gc,0,none⟩) c.length cc] #[.string f.name,.slice pa f.params.length pc,.int .i64 f.result,.int .i64 f.slots,.slice (some ⟨gi,0,none⟩) f.ins.length ic] (Cd.sys c f) X (X3.set gk jn) (ag3 || ch) i b gl (k+1) Os Og (.cells #[.int .i64 st',.slice xa xn xc,.slice ya yn yc] 110) go (.agg #[.int .i64 st',.slice xa xn xc,.slice ya yn yc]) W5):=by
                            have h:=HKT4.out.step hkl (by show gl[k] < f.ins.length;rw [HGK.out];exact hgn) HON.out HOGN.out (by rw [HGK.out,HJN.out];exact HSB4.out)
                            simp only [HGK.out,HJN.out] at h
                            rw [show decide (jn≠Cd.at' X3 gk)=ch from (by rw [← HJN.out];exact HCH.out)] at h
                            unfold Cd.set3 at h
                            rw [hW5] at h
                            exact h
                          have HOX5:Hid (W5.heap[Ox]? = some (.cells #[.int .i64 st3,.slice pa3 pn3 pc3,.slice qa3 qn3 qc3] 110)):=by
                            rw [Hid,← hW5,Below.heap_setCell _ _ _ _ (by exact HOXN.out),Below.heap_setCell _ _ _ _ (by exact HOXN.out),Below.heap_setCell _ _ _ _ (by exact HOXN.out)]
                            exact HOX.out
                          have m0:W4.cell? ⟨Og,k,none⟩=some (.int .i64 (gk:Int)):=by rw [← HGK.out];exact HGC2.out W4 HKT4.out.og k hkl
                          have m1:W4.cell? ⟨Ox,0,none⟩=some (.int .i64 st3):=by rw [Lib.cell_of_heap HOX.out];rfl
                          have m2:W4.cell? ⟨Ox,1,none⟩=some (.slice pa3 pn3 pc3):=by rw [Lib.cell_of_heap HOX.out];rfl
                          have m3:W4.cell? ⟨Ox,2,none⟩=some (.slice qa3 qn3 qc3):=by rw [Lib.cell_of_heap HOX.out];rfl
                          have n0:W5.cell? ⟨Og,k,none⟩=some (.int .i64 (gk:Int)):=by rw [← HGK.out];exact HGC2.out W5 HKT5.out.og k hkl
                          have n1:W5.cell? ⟨Ox,0,none⟩=some (.int .i64 st3):=by rw [Lib.cell_of_heap HOX5.out];rfl
                          have n2:W5.cell? ⟨Ox,1,none⟩=some (.slice pa3 pn3 pc3):=by rw [Lib.cell_of_heap HOX5.out];rfl
                          have n3:W5.cell? ⟨Ox,2,none⟩=some (.slice qa3 qn3 qc3):=by rw [Lib.cell_of_heap HOX5.out];rfl
                          obtain ⟨st4,sa4,sl4,sc4,ka4,kl4,kc4,g0,g1,g2,-⟩:=HKT4.out.sl.shs.each gk (by rw [HX3L.out];exact hgn)
                          have y0:=HKT4.out.sl.shs.froz (gk * 3);have y1:=HKT4.out.sl.shs.froz (gk * 3+1);have y2:=HKT4.out.sl.shs.froz (gk * 3+2)
                          go_wp2_with fail
                          go_region_held3 (fun W=>W.cell? ⟨Og,k,none⟩=some (.int .i64 (gk:Int))∧W.cell? ⟨Ox,0,none⟩=some (.int .i64 st3)∧W.cell? ⟨Ox,1,none⟩=some (.slice pa3 pn3 pc3)∧W.cell? ⟨Ox,2,none⟩=some (.slice qa3 qn3 qc3)) (first | exact ⟨m0,m1,m2,m3⟩ | exact ⟨n0,n1,n2,n3⟩ | (rw [hW5];exact ⟨n0,n1,n2,n3⟩)) (fail)
                          cases ag3 with
                          | true =>
                            go_wp2_with fail
                            go_roundw
                            case rel=>exact ⟨X3.set gk jn,true,k+1,by omega,rfl,by go_num,HKT5.out.below (Below.refl _ W5).drew⟩
                            case measure=>simp [intOf];omega
                          | false =>
                            go_wp2_with fail
                            go_roundw
                            case rel=>exact ⟨X3.set gk jn,ch,k+1,by omega,rfl,by go_num,HKT5.out.below (Below.refl _ W5).drew⟩
                            case measure=>simp [intOf];omega
                      · have hgnI:¬ (gk:Int) < (f.ins.length:Int):=by omega
                        go_wp2_with fail
                        go_roundw
                        case rel=>exact ⟨X3,ag3,k+1,by omega,rfl,by go_num,HKT.out.skip hkl (by show ¬ gl[k] < f.ins.length;rw [HGK.out];exact hgn)⟩
                        case measure=>simp [intOf];omega
                    · have hklI:¬ (k:Int) < (gl.length:Int):=by omega
                      go_wp2_with fail
                      go_roundw
                      case rel=>exact ⟨X3,ag3,i+1,by omega,rfl,by go_num,HKT.out.sl,Cd.Rk.done (k:=k) (by have h:=HKT.out.rk;rw [← HGLS.out] at h;exact h) (by rw [HGLS.out];omega)⟩
                      case measure=>simp [intOf];omega
                · obtain ⟨Os,hOs⟩:∃ O,O=wr.heap.size:=⟨_,rfl⟩
                  obtain ⟨W2,hW2⟩:∃ W,(((w7.setCell ⟨wr.heap.size,0,none⟩ (.int .i64 st')).setCell ⟨wr.heap.size,1,none⟩ (.slice xa xn xc)).setCell ⟨wr.heap.size,2,none⟩ (.slice ya yn yc))=W:=⟨_,rfl⟩
                  have h1:=heap_setCell_same w7 wr.heap.size 0 _ _ (.int .i64 st') hz7
                  have h2:=heap_setCell_same _ wr.heap.size 1 _ _ (.slice xa xn xc) h1
                  have h3:=heap_setCell_same _ wr.heap.size 2 _ _ (.slice ya yn yc) h2
                  have HOS:Hid (W2.heap[Os]? = some (.cells #[.int .i64 st',.slice xa xn xc,.slice ya yn yc] 110)):=by rw [Hid,← hW2,hOs];exact h3
                  have hlt7:w.heap.size+2 < wr.heap.size:=HS2.out.shs.lt
                  have HSL2:Hid (Cd.Sl w #[.slice (some ⟨gc,0,none⟩) c.length cc] #[.string f.name,.slice pa f.params.length pc,.int .i64 f.result,.int .i64 f.slots,.slice (some ⟨gi,0,none⟩) f.ins.length ic] X2 W2):=by
                    rw [Hid,← hW2]
                    exact (((HS2.out.below hb7').set wr.heap.size 0 _ hlt7 ⟨_,hz7⟩).set wr.heap.size 1 _ hlt7 ⟨_,h1⟩).set wr.heap.size 2 _ hlt7 ⟨_,h2⟩
                  have HSB:Hid (Cd.ShAt W2.heap.size W2 (.agg #[.int .i64 st',.slice xa xn xc,.slice ya yn yc]) b):=by
                    rw [Hid,← hW2]
                    refine hv.keep (by simp) (fun st'' sv'' kv'' e k hk => ?_)
                    obtain ⟨_,rfl,rfl⟩:=Cd.shV_inj (show Cd.shV st' (.slice xa xn xc) (.slice ya yn yc)=_ from e)
                    have hne:k≠wr.heap.size:=Cd.ShAt.off hz7 (show Cd.ShAt _ _ (Cd.shV st' (.slice xa xn xc) (.slice ya yn yc)) _ from hv) k hk
                    rw [Below.heap_setCell _ _ _ _ (by exact hne),Below.heap_setCell _ _ _ _ (by exact hne),Below.heap_setCell _ _ _ _ (by exact hne)]
                  have HON:Hid (w.heap.size+2 < Os):=by rw [Hid,hOs];exact hlt7
                  rw [hW2,← hOs]
                  clear hW2 hOs hv hb7 hb7' h1 h2 h3 hz7 z70 z71 z72 y70 y71 y72 hlt7
                  clear HKW HBA l0 l1 l2 l3 l4 l5 l6 l7 l8 g0 g1 g2 HSH HS2 HR2 hstb HNN HBE
                  have q4:W2.cell? ⟨w.heap.size+1,4,none⟩=some (.slice (some ⟨gi,0,none⟩) f.ins.length ic):=by rw [Lib.cell_of_heap HSL2.out.fnb];rfl
                  obtain ⟨v0,v1,v2,v3⟩:=HIC.out W2 HSL2.out.since
                  go_wp2_with (first | (go_at_call 63;refine (Cd.goes_new ix i (by omega) (fun h=>(hjmp h).1) W2).mono ?_;rintro e w8 ⟨gn,cg,rfl,hgv,hb8,hg8⟩))
                  obtain ⟨Og,HOG⟩:∃ O,Hid (O=W2.heap.size+1):=⟨_,(rfl:_=W2.heap.size+1)⟩
                  have hgn:gn=gl.length:=by
                    obtain ⟨_,_,e,_⟩:=hgv
                    injection e with _ e _
                    rw [e,HGL.out];simp [Cd.nats]
                  subst hgn
                  have HGC:Hid (∀ j (hj:j < gl.length),Og < w8.heap.size∧w8.cell? ⟨Og,j,none⟩=some (.int .i64 ((gl[j]:Nat):Int))):=fun j hj=>by
                    obtain ⟨_,_,e,hc⟩:=hgv
                    injection e with e1 _ _
                    subst e1
                    obtain ⟨g,o,e2,h3,h4⟩:=hc j (by rw [HGL.out];simpa [Cd.nats] using hj)
                    injection e2 with e2;injection e2 with e5 e6
                    subst e5 e6
                    rw [Nat.zero_add] at h4
                    refine ⟨by rw [HOG.out];exact h3,by rw [HOG.out,h4];simp [Cd.nats,HGL.out]⟩
                  rw [← HOG.out]
                  obtain ⟨go,HKT0⟩:∃ go,Hid (Cd.Kt w #[.slice (some ⟨gc,0,none⟩) c.length cc] #[.string f.name,.slice pa f.params.length pc,.int .i64 f.result,.int .i64 f.slots,.slice (some ⟨gi,0,none⟩) f.ins.length ic] (Cd.sys c f) X X2 ag i b gl 0 Os Og (.cells #[.int .i64 st',.slice xa xn xc,.slice ya yn yc] 110) go (.agg #[.int .i64 st',.slice xa xn xc,.slice ya yn yc]) w8):=⟨_,HSL2.out.below hb8,HRK.out,(hb8.block _ (Array.getElem?_eq_some_iff.1 HOS.out).1).trans HOS.out,Array.getElem?_eq_getElem (by rw [HOG.out];exact hg8),(HSB.out.below hb8).mono hb8.size⟩
                  have HOGN:Hid (w.heap.size+2 < Og):=by rw [Hid,HOG.out];have:=HSL2.out.shs.lt;omega
                  have HGC2:Hid (∀ W:World,W.heap[Og]? = some go→∀ j (hj:j < gl.length),W.cell? ⟨Og,j,none⟩=some (.int .i64 ((gl[j]:Nat):Int))):=fun W hW j hj=>(World.cell?_of_block (a:=⟨Og,j,none⟩) (hW.trans HKT0.out.og.symm)).trans (HGC.out j hj).2
                  have HGLS:Hid ((Cd.sys c f).goes i=gl):=HGS.out.trans HGL.out
                  clear hgv hb8 hg8 HGC HOG HSL2 HOS HSB HRK v0 v1 v2 v3 q4 HIC hjmp HGL
                  go_loopw [8,12] (fun ta tk wx => ∃ (X3:List Cd.Sh) (ag3:Bool) (k:Nat),k≤gl.length∧ta = .bool ag3∧tk = .int .i64 (k:Int)∧Cd.Kt w #[.slice (some ⟨gc,0,none⟩) c.length cc] #[.string f.name,.slice pa f.params.length pc,.int .i64 f.result,.int .i64 f.slots,.slice (some ⟨gi,0,none⟩) f.ins.length ic] (Cd.sys c f) X X3 ag3 i b gl k Os Og (.cells #[.int .i64 st',.slice xa xn xc,.slice ya yn yc] 110) go (.agg #[.int .i64 st',.slice xa xn xc,.slice ya yn yc]) wx) (fun _ tk _=>gl.length - (intOf tk).toNat)
                  case atStart=>exact ⟨X2,ag,0,by omega,rfl,rfl,HKT0.out⟩
                  case round =>
                    obtain ⟨X3,ag3,k,hk,rfl,rfl,hKT⟩:=hrel
                    have HKT:Hid (Cd.Kt w #[.slice (some ⟨gc,0,none⟩) c.length cc] #[.string f.name,.slice pa f.params.length pc,.int .i64 f.result,.int .i64 f.slots,.slice (some ⟨gi,0,none⟩) f.ins.length ic] (Cd.sys c f) X X3 ag3 i b gl k Os Og (.cells #[.int .i64 st',.slice xa xn xc,.slice ya yn yc] 110) go (.agg #[.int .i64 st',.slice xa xn xc,.slice ya yn yc]) wr):=hKT
                    clear hKT
                    by_cases hkl:k < gl.length
                    · have hklI:(k:Int) < (gl.length:Int):=by omega
                      have d0:=HGC2.out wr HKT.out.og k hkl
                      obtain ⟨gk,HGK⟩:∃ g,Hid (gl[k]=g):=⟨_,(rfl:gl[k]=_)⟩
                      rw [HGK.out] at d0
                      by_cases hgn:gk < f.ins.length
                      · have hgnI:(gk:Int) < (f.ins.length:Int):=by omega
                        have HX3L:Hid (X3.length=f.ins.length):=HKT.out.rk.rd.low.size
                        obtain ⟨st2,sa2,sl2,sc2,ka2,kl2,kc2,g0,g1,g2,HSH⟩:∃ st sa sl sc ka kl kc,wr.cell? ⟨w.heap.size+2,gk * 3,none⟩=some (.int .i64 st)∧wr.cell? ⟨w.heap.size+2,gk * 3+1,none⟩=some (.slice sa sl sc)∧wr.cell? ⟨w.heap.size+2,gk * 3+2,none⟩=some (.slice ka kl kc)∧Hid (Cd.ShAt wr.heap.size wr (Cd.shV st (.slice sa sl sc) (.slice ka kl kc)) (Cd.at' X3 gk)):=by
                          have hl2:gk < X3.length:=by rw [HX3L.out];exact hgn
                          have h:=HKT.out.sl.shs.each gk hl2
                          rw [← Cd.at_get hl2] at h
                          exact h
                        have HKW:Hid (∀ W,Below wr.heap.size wr W→W.cell? ⟨Og,k,none⟩=some (.int .i64 (gk:Int))∧(W.cell? ⟨w.heap.size+2,gk * 3,none⟩=some (.int .i64 st2)∧W.cell? ⟨w.heap.size+2,gk * 3+1,none⟩=some (.slice sa2 sl2 sc2)∧W.cell? ⟨w.heap.size+2,gk * 3+2,none⟩=some (.slice ka2 kl2 kc2))∧W.cell? ⟨Os,0,none⟩=some (.int .i64 st')∧W.cell? ⟨Os,1,none⟩=some (.slice xa xn xc)∧W.cell? ⟨Os,2,none⟩=some (.slice ya yn yc)):=fun W hW=>by
                          have h:=HKT.out.below hW
                          have hl:=HKT.out.sl.shs.lt
                          refine ⟨by rw [← HGK.out];exact HGC2.out W h.og k hkl,⟨(hW.cell (p:=⟨w.heap.size+2,gk * 3,none⟩) hl).trans g0,(hW.cell (p:=⟨w.heap.size+2,gk * 3+1,none⟩) hl).trans g1,(hW.cell (p:=⟨w.heap.size+2,gk * 3+2,none⟩) hl).trans g2⟩,by rw [Lib.cell_of_heap h.os];rfl,by rw [Lib.cell_of_heap h.os];rfl,by rw [Lib.cell_of_heap h.os];rfl⟩
                        obtain ⟨jn,HJN⟩:∃ j,Hid (Cd.join (Cd.at' X3 gk) b=j):=⟨_,(rfl:Cd.join (Cd.at' X3 gk) b=_)⟩
                        obtain ⟨ch,HCH⟩:∃ c,Hid (decide (Cd.join (Cd.at' X3 gk) b≠Cd.at' X3 gk)=c):=⟨_,rfl⟩
                        have HJ:Hid (∀ W,Below wr.heap.size wr W→Calls Tryz.prog 64 #[.agg #[.int .i64 st2,.slice sa2 sl2 sc2,.slice ka2 kl2 kc2],.agg #[.int .i64 st',.slice xa xn xc,.slice ya yn yc]] W fun e w'=>(∃ v,e = .returned (.tuple #[v,.bool ch])∧Cd.ShAt w'.heap.size w' v jn)∧Below W.heap.size W w'):=fun W hW=>by
                          have h:=HKT.out.below hW
                          have hj:=Cd.join_any (Cd.sys c f).m (by show (Cd.firstS f).length≤200;rw [Cd.firstS_len f b6];omega) (Cd.at' X3 gk) b (Cd.shV st2 (.slice sa2 sl2 sc2) (.slice ka2 kl2 kc2)) (.agg #[.int .i64 st',.slice xa xn xc,.slice ya yn yc]) (h.rk.rd.low.lens gk) h.rk.blen (h.rk.rd.stk gk) h.rk.bstk W ((HSH.out.below hW).mono hW.size) h.sb
                          rw [HCH.out,HJN.out] at hj
                          exact hj
                        go_wp2_with fail
                        obtain ⟨l0,⟨l1,l2,l3⟩,l4,l5,l6⟩:=HKW.out wr (Below.refl _ _)
                        go_region_held3 (fun W=>W.cell? ⟨Og,k,none⟩=some (.int .i64 (gk:Int))∧(W.cell? ⟨w.heap.size+2,gk * 3,none⟩=some (.int .i64 st2)∧W.cell? ⟨w.heap.size+2,gk * 3+1,none⟩=some (.slice sa2 sl2 sc2)∧W.cell? ⟨w.heap.size+2,gk * 3+2,none⟩=some (.slice ka2 kl2 kc2))∧W.cell? ⟨Os,0,none⟩=some (.int .i64 st')∧W.cell? ⟨Os,1,none⟩=some (.slice xa xn xc)∧W.cell? ⟨Os,2,none⟩=some (.slice ya yn yc)) (first | exact HKW.out _ (Below.refl _ _) | exact HKW.out _ (Cd.b1 _ _) | exact HKW.out _ hb7' | exact HKW.out _ (Cd.Below.new hb7' _) | exact HKW.out _ (((hb7'.setCell (p:=⟨wr.heap.size,0,none⟩) (Nat.le_refl _) _).setCell (p:=⟨wr.heap.size,1,none⟩) (Nat.le_refl _) _).setCell (p:=⟨wr.heap.size,2,none⟩) (Nat.le_refl _) _) | exact HKW.out _ (by repeat (first | exact Below.refl _ _ | apply Below.drew | (refine Below.alloc ?_ (by simp) _)))) (first | (go_at_call 64;refine (HJ.out _ (by repeat (first | exact Below.refl _ _ | apply Below.drew | (refine Below.alloc ?_ (by simp) _)))).mono ?_;rintro e w7 ⟨⟨v,rfl,hv⟩,hb7⟩;obtain ⟨st3,pa3,pn3,pc3,qa3,qn3,qc3,hv7⟩:=hv.form;subst hv7;have hb7':=(show Below wr.heap.size wr w7 from Below.trans (by repeat (first | exact Below.refl _ _ | apply Below.drew | (refine Below.alloc ?_ (by simp) _))) (hb7.mono (by simp)));try (have hz7:=(show w7.heap[wr.heap.size]? = some (.cells #[.int .i64 0,.slice none 0 0,.slice none 0 0] 110) from (hb7.block _ (by simp)).trans (Cd.new_at wr _));have z70:=(show w7.cell? ⟨wr.heap.size,0,none⟩=some (.int .i64 0) from (by rw [Lib.cell_of_heap hz7];rfl));have z71:=(show w7.cell? ⟨wr.heap.size,1,none⟩=some (.slice none 0 0) from (by rw [Lib.cell_of_heap hz7];rfl));have z72:=(show w7.cell? ⟨wr.heap.size,2,none⟩=some (.slice none 0 0) from (by rw [Lib.cell_of_heap hz7];rfl));have y70:=(show w7.frozen? ⟨wr.heap.size,0,none⟩=false from (by simp [World.frozen?,hz7]));have y71:=(show w7.frozen? ⟨wr.heap.size,1,none⟩=false from (by simp [World.frozen?,hz7]));have y72:=(show w7.frozen? ⟨wr.heap.size,2,none⟩=false from (by simp [World.frozen?,hz7])))))
                        · obtain ⟨Ox,hOx⟩:∃ O,O=w7.heap.size:=⟨_,rfl⟩
                          obtain ⟨W4,hW4⟩:∃ W,w7.alloc (.cells #[.int .i64 st3,.slice pa3 pn3 pc3,.slice qa3 qn3 qc3] 110)=W:=⟨_,rfl⟩
                          have HOX:Hid (W4.heap[Ox]? = some (.cells #[.int .i64 st3,.slice pa3 pn3 pc3,.slice qa3 qn3 qc3] 110)):=by rw [Hid,← hW4,hOx];exact Cd.new_at _ _
                          have HKT4:Hid (Cd.Kt w #[.slice (some ⟨gc,0,none⟩) c.length cc] #[.string f.name,.slice pa f.params.length pc,.int .i64 f.result,.int .i64 f.slots,.slice (some ⟨gi,0,none⟩) f.ins.length ic] (Cd.sys c f) X X3 ag3 i b gl k Os Og (.cells #[.int .i64 st',.slice xa xn xc,.slice ya yn yc] 110) go (.agg #[.int .i64 st',.slice xa xn xc,.slice ya yn yc]) W4):=by rw [Hid,← hW4];exact (HKT.out.below hb7').below (Cd.b1 w7 _)
                          have HSB4:Hid (Cd.ShAt W4.heap.size W4 (Cd.shV st3 (.slice pa3 pn3 pc3) (.slice qa3 qn3 qc3)) jn):=by rw [Hid,← hW4];exact (hv.below (Cd.b1 w7 _)).mono (Cd.b1 w7 _).size
                          have HOXN:Hid (Ox≠w.heap.size+2):=by rw [Hid,hOx];have:=(HKT.out.below hb7').sl.shs.lt;omega
                          rw [hW4,← hOx]
                          clear hW4 hOx hv hb7 hb7'
                          clear HKW HJ l0 l1 l2 l3 l4 l5 l6 g0 g1 g2 HSH d0
                          obtain ⟨W5,hW5⟩:∃ W,(((W4.setCell ⟨w.heap.size+2,gk * 3,none⟩ (.int .i64 st3)).setCell ⟨w.heap.size+2,gk * 3+1,none⟩ (.slice pa3 pn3 pc3)).setCell ⟨w.heap.size+2,gk * 3+2,none⟩ (.slice qa3 qn3 qc3))=W:=⟨_,rfl⟩
                          have HKT5:Hid (Cd.Kt w #[.slice (some ⟨gc,0,none⟩) c.length cc] #[.string f.name,.slice pa f.params.length pc,.int .i64 f.result,.int .i64 f.slots,.slice (some ⟨gi,0,none⟩) f.ins.length ic] (Cd.sys c f) X (X3.set gk jn) (ag3 || ch) i b gl (k+1) Os Og (.cells #[.int .i64 st',.slice xa xn xc,.slice ya yn yc] 110) go (.agg #[.int .i64 st',.slice xa xn xc,.slice ya yn yc]) W5):=by
                            have h:=HKT4.out.step hkl (by show gl[k] < f.ins.length;rw [HGK.out];exact hgn) HON.out HOGN.out (by rw [HGK.out,HJN.out];exact HSB4.out)
                            simp only [HGK.out,HJN.out] at h
                            rw [show decide (jn≠Cd.at' X3 gk)=ch from (by rw [← HJN.out];exact HCH.out)] at h
                            unfold Cd.set3 at h
                            rw [hW5] at h
                            exact h
                          have HOX5:Hid (W5.heap[Ox]? = some (.cells #[.int .i64 st3,.slice pa3 pn3 pc3,.slice qa3 qn3 qc3] 110)):=by
                            rw [Hid,← hW5,Below.heap_setCell _ _ _ _ (by exact HOXN.out),Below.heap_setCell _ _ _ _ (by exact HOXN.out),Below.heap_setCell _ _ _ _ (by exact HOXN.out)]
                            exact HOX.out
                          have m0:W4.cell? ⟨Og,k,none⟩=some (.int .i64 (gk:Int)):=by rw [← HGK.out];exact HGC2.out W4 HKT4.out.og k hkl
                          have m1:W4.cell? ⟨Ox,0,none⟩=some (.int .i64 st3):=by rw [Lib.cell_of_heap HOX.out];rfl
                          have m2:W4.cell? ⟨Ox,1,none⟩=some (.slice pa3 pn3 pc3):=by rw [Lib.cell_of_heap HOX.out];rfl
                          have m3:W4.cell? ⟨Ox,2,none⟩=some (.slice qa3 qn3 qc3):=by rw [Lib.cell_of_heap HOX.out];rfl
                          have n0:W5.cell? ⟨Og,k,none⟩=some (.int .i64 (gk:Int)):=by rw [← HGK.out];exact HGC2.out W5 HKT5.out.og k hkl
                          have n1:W5.cell? ⟨Ox,0,none⟩=some (.int .i64 st3):=by rw [Lib.cell_of_heap HOX5.out];rfl
                          have n2:W5.cell? ⟨Ox,1,none⟩=some (.slice pa3 pn3 pc3):=by rw [Lib.cell_of_heap HOX5.out];rfl
                          have n3:W5.cell? ⟨Ox,2,none⟩=some (.slice qa3 qn3 qc3):=by rw [Lib.cell_of_heap HOX5.out];rfl
                          obtain ⟨st4,sa4,sl4,sc4,ka4,kl4,kc4,g0,g1,g2,-⟩:=HKT4.out.sl.shs.each gk (by rw [HX3L.out];exact hgn)
                          have y0:=HKT4.out.sl.shs.froz (gk * 3);have y1:=HKT4.out.sl.shs.froz (gk * 3+1);have y2:=HKT4.out.sl.shs.froz (gk * 3+2)
                          go_wp2_with fail
                          go_region_held3 (fun W=>W.cell? ⟨Og,k,none⟩=some (.int .i64 (gk:Int))∧W.cell? ⟨Ox,0,none⟩=some (.int .i64 st3)∧W.cell? ⟨Ox,1,none⟩=some (.slice pa3 pn3 pc3)∧W.cell? ⟨Ox,2,none⟩=some (.slice qa3 qn3 qc3)) (first | exact ⟨m0,m1,m2,m3⟩ | exact ⟨n0,n1,n2,n3⟩ | (rw [hW5];exact ⟨n0,n1,n2,n3⟩)) (fail)
                          cases ag3 with
                          | true =>
                            go_wp2_with fail
                            go_roundw
                            case rel=>exact ⟨X3.set gk jn,true,k+1,by omega,rfl,by go_num,HKT5.out.below (Below.refl _ W5).drew⟩
                            case measure=>simp [intOf];omega
                          | false =>
                            go_wp2_with fail
                            go_roundw
                            case rel=>exact ⟨X3.set gk jn,ch,k+1,by omega,rfl,by go_num,HKT5.out.below (Below.refl _ W5).drew⟩
                            case measure=>simp [intOf];omega
                        · obtain ⟨Ox,hOx⟩:∃ O,O=wr.heap.size:=⟨_,rfl⟩
                          obtain ⟨W4,hW4⟩:∃ W,(((w7.setCell ⟨wr.heap.size,0,none⟩ (.int .i64 st3)).setCell ⟨wr.heap.size,1,none⟩ (.slice pa3 pn3 pc3)).setCell ⟨wr.heap.size,2,none⟩ (.slice qa3 qn3 qc3))=W:=⟨_,rfl⟩
                          have h1:=heap_setCell_same w7 wr.heap.size 0 _ _ (.int .i64 st3) hz7
                          have h2:=heap_setCell_same _ wr.heap.size 1 _ _ (.slice pa3 pn3 pc3) h1
                          have h3:=heap_setCell_same _ wr.heap.size 2 _ _ (.slice qa3 qn3 qc3) h2
                          have HOX:Hid (W4.heap[Ox]? = some (.cells #[.int .i64 st3,.slice pa3 pn3 pc3,.slice qa3 qn3 qc3] 110)):=by rw [Hid,← hW4,hOx];exact h3
                          have hlt7:w.heap.size+2 < wr.heap.size:=HKT.out.sl.shs.lt
                          have hns:wr.heap.size≠Os:=fun e=>by have:=(Array.getElem?_eq_some_iff.1 HKT.out.os).1;omega
                          have hng:wr.heap.size≠Og:=fun e=>by have:=(Array.getElem?_eq_some_iff.1 HKT.out.og).1;omega
                          have HKT4:Hid (Cd.Kt w #[.slice (some ⟨gc,0,none⟩) c.length cc] #[.string f.name,.slice pa f.params.length pc,.int .i64 f.result,.int .i64 f.slots,.slice (some ⟨gi,0,none⟩) f.ins.length ic] (Cd.sys c f) X X3 ag3 i b gl k Os Og (.cells #[.int .i64 st',.slice xa xn xc,.slice ya yn yc] 110) go (.agg #[.int .i64 st',.slice xa xn xc,.slice ya yn yc]) W4):=by
                            rw [Hid,← hW4]
                            exact (((HKT.out.below hb7').set wr.heap.size 0 _ hlt7 hns hng ⟨_,hz7⟩).set wr.heap.size 1 _ hlt7 hns hng ⟨_,h1⟩).set wr.heap.size 2 _ hlt7 hns hng ⟨_,h2⟩
                          have HSB4:Hid (Cd.ShAt W4.heap.size W4 (Cd.shV st3 (.slice pa3 pn3 pc3) (.slice qa3 qn3 qc3)) jn):=by
                            rw [Hid,← hW4]
                            refine (show Cd.ShAt _ _ (Cd.shV st3 (.slice pa3 pn3 pc3) (.slice qa3 qn3 qc3)) _ from hv).keep (by simp) (fun st'' sv'' kv'' e k hk => ?_)
                            obtain ⟨_,rfl,rfl⟩:=Cd.shV_inj e
                            have hne:k≠wr.heap.size:=Cd.ShAt.off hz7 (show Cd.ShAt _ _ (Cd.shV st3 (.slice pa3 pn3 pc3) (.slice qa3 qn3 qc3)) _ from hv) k hk
                            rw [Below.heap_setCell _ _ _ _ (by exact hne),Below.heap_setCell _ _ _ _ (by exact hne),Below.heap_setCell _ _ _ _ (by exact hne)]
                          have HOXN:Hid (Ox≠w.heap.size+2):=by rw [Hid,hOx];omega
                          rw [hW4,← hOx]
                          clear hW4 hOx hv hb7 hb7' h1 h2 h3 hz7 z70 z71 z72 y70 y71 y72 hlt7 hns hng
                          clear HKW HJ l0 l1 l2 l3 l4 l5 l6 g0 g1 g2 HSH d0
                          obtain ⟨W5,hW5⟩:∃ W,(((W4.setCell ⟨w.heap.size+2,gk * 3,none⟩ (.int .i64 st3)).setCell ⟨w.heap.size+2,gk * 3+1,none⟩ (.slice pa3 pn3 pc3)).setCell ⟨w.heap.size+2,gk * 3+2,none⟩ (.slice qa3 qn3 qc3))=W:=⟨_,rfl⟩
                          have HKT5:Hid (Cd.Kt w #[.slice (some ⟨gc,0,none⟩) c.length cc] #[.string f.name,.slice pa f.params.length pc,.int .i64 f.result,.int .i64 f.slots,.slice (some ⟨gi,0,none⟩) f.ins.length ic] (Cd.sys c f) X (X3.set gk jn) (ag3 || ch) i b gl (k+1) Os Og (.cells #[.int .i64 st',.slice xa xn xc,.slice ya yn yc] 110) go (.agg #[.int .i64 st',.slice xa xn xc,.slice ya yn yc]) W5):=by
                            have h:=HKT4.out.step hkl (by show gl[k] < f.ins.length;rw [HGK.out];exact hgn) HON.out HOGN.out (by rw [HGK.out,HJN.out];exact HSB4.out)
                            simp only [HGK.out,HJN.out] at h
                            rw [show decide (jn≠Cd.at' X3 gk)=ch from (by rw [← HJN.out];exact HCH.out)] at h
                            unfold Cd.set3 at h
                            rw [hW5] at h
                            exact h
                          have HOX5:Hid (W5.heap[Ox]? = some (.cells #[.int .i64 st3,.slice pa3 pn3 pc3,.slice qa3 qn3 qc3] 110)):=by
                            rw [Hid,← hW5,Below.heap_setCell _ _ _ _ (by exact HOXN.out),Below.heap_setCell _ _ _ _ (by exact HOXN.out),Below.heap_setCell _ _ _ _ (by exact HOXN.out)]
                            exact HOX.out
                          have m0:W4.cell? ⟨Og,k,none⟩=some (.int .i64 (gk:Int)):=by rw [← HGK.out];exact HGC2.out W4 HKT4.out.og k hkl
                          have m1:W4.cell? ⟨Ox,0,none⟩=some (.int .i64 st3):=by rw [Lib.cell_of_heap HOX.out];rfl
                          have m2:W4.cell? ⟨Ox,1,none⟩=some (.slice pa3 pn3 pc3):=by rw [Lib.cell_of_heap HOX.out];rfl
                          have m3:W4.cell? ⟨Ox,2,none⟩=some (.slice qa3 qn3 qc3):=by rw [Lib.cell_of_heap HOX.out];rfl
                          have n0:W5.cell? ⟨Og,k,none⟩=some (.int .i64 (gk:Int)):=by rw [← HGK.out];exact HGC2.out W5 HKT5.out.og k hkl
                          have n1:W5.cell? ⟨Ox,0,none⟩=some (.int .i64 st3):=by rw [Lib.cell_of_heap HOX5.out];rfl
                          have n2:W5.cell? ⟨Ox,1,none⟩=some (.slice pa3 pn3 pc3):=by rw [Lib.cell_of_heap HOX5.out];rfl
                          have n3:W5.cell? ⟨Ox,2,none⟩=some (.slice qa3 qn3 qc3):=by rw [Lib.cell_of_heap HOX5.out];rfl
                          obtain ⟨st4,sa4,sl4,sc4,ka4,kl4,kc4,g0,g1,g2,-⟩:=HKT4.out.sl.shs.each gk (by rw [HX3L.out];exact hgn)
                          have y0:=HKT4.out.sl.shs.froz (gk * 3);have y1:=HKT4.out.sl.shs.froz (gk * 3+1);have y2:=HKT4.out.sl.shs.froz (gk * 3+2)
                          go_wp2_with fail
                          go_region_held3 (fun W=>W.cell? ⟨Og,k,none⟩=some (.int .i64 (gk:Int))∧W.cell? ⟨Ox,0,none⟩=some (.int .i64 st3)∧W.cell? ⟨Ox,1,none⟩=some (.slice pa3 pn3 pc3)∧W.cell? ⟨Ox,2,none⟩=some (.slice qa3 qn3 qc3)) (first | exact ⟨m0,m1,m2,m3⟩ | exact ⟨n0,n1,n2,n3⟩ | (rw [hW5];exact ⟨n0,n1,n2,n3⟩)) (fail)
                          cases ag3 with
                          | true =>
                            go_wp2_with fail
                            go_roundw
                            case rel=>exact ⟨X3.set gk jn,true,k+1,by omega,rfl,by go_num,HKT5.out.below (Below.refl _ W5).drew⟩
                            case measure=>simp [intOf];omega
                          | false =>
                            go_wp2_with fail
                            go_roundw
                            case rel=>exact ⟨X3.set gk jn,ch,k+1,by omega,rfl,by go_num,HKT5.out.below (Below.refl _ W5).drew⟩
                            case measure=>simp [intOf];omega
                      · have hgnI:¬ (gk:Int) < (f.ins.length:Int):=by omega
                        go_wp2_with fail
                        go_roundw
                        case rel=>exact ⟨X3,ag3,k+1,by omega,rfl,by go_num,HKT.out.skip hkl (by show ¬ gl[k] < f.ins.length;rw [HGK.out];exact hgn)⟩
                        case measure=>simp [intOf];omega
                    · have hklI:¬ (k:Int) < (gl.length:Int):=by omega
                      go_wp2_with fail
                      go_roundw
                      case rel=>exact ⟨X3,ag3,i+1,by omega,rfl,by go_num,HKT.out.sl,Cd.Rk.done (k:=k) (by have h:=HKT.out.rk;rw [← HGLS.out] at h;exact h) (by rw [HGLS.out];omega)⟩
                      case measure=>simp [intOf];omega
            · have HE:Hid (i=f.ins.length):=(by omega:i=f.ins.length)
              have hltI:¬ (i:Int) < (f.ins.length:Int):=by omega
              go_wp2_with fail
              go_roundw
              case rel =>
                refine ⟨X2,ag,rfl,HS2.out,HR2.out.again,fun e => ?_⟩
                have h:=HR2.out
                rw [e] at h
                exact h.fix (by show f.ins.length≤i;rw [HE.out];exact Nat.le_refl _)
              case measure =>
                rw [HSX.out.shs.eps,HS2.out.shs.eps]
                cases ag with
                | false=>simp only;omega
                | true =>
                  have h1:=HR2.out.more rfl
                  have h2:=HR2.out.top
                  simp only
                  omega
end Go.Proofs.YtbkhedpabfanoaaGreatDoor
