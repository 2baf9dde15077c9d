import Derived.Test.YtlcckaffhnjneaaGreatDoorKTk
import Derived.Test.YtlcckaffhnjneaaGreatDoorKPcT
import Derived.Deep.RegionLaw
import Derived.Deep.RegionHeld3
set_option maxRecDepth 100000
set_option maxHeartbeats 2000000
namespace Go.Proofs.YtlcckaffhnjneaaGreatDoor
open Go.RowKit
variable {ts:List (Mill.Piece × Nat)} {g:Nat} {a:Option Addr} {c E i j:Nat} {w W W2:World}
theorem Tryz.infoFnP : (Tryz.prog.info? 79).map (fun i=>(i.zero,i.size,i.bytes))=some (some (.agg #[.string ByteArray.empty,.int .i64 0,.slice none 0 0,.slice none 0 0]),4,72):=by kernel_rfl
def Pa.Kf (B:Nat) (W:World) (va:Option Addr) (vc:Nat) (l:List Mill.Tr) (fs:List Mill.FnR):Prop :=
 W.ownsRow B 79 4 (.slice va fs.length vc) fs.length (Mill.fnC fs)∧Mill.Reps (fun b=>B≤b∧b < W.heap.size∧(Value.slice va fs.length vc).ownBlock≠some b) W l (fs.map Mill.fnV)
variable {va:Option Addr} {vc B p:Nat} {l:List Mill.Tr} {fs:List Mill.FnR}
theorem Pa.Kf.nil (B:Nat) (W:World):Pa.Kf B W none 0 [] []:=⟨⟨rfl,.inl ⟨rfl,rfl⟩⟩,by rw [List.map_nil,Mill.Reps]⟩
theorem Pa.Kf.fr (h:Pa.Kf B W va vc l fs) (hF:Pa.Fr g W W2) (hB:g < B):Pa.Kf B W2 va vc l fs :=
 ⟨hF.own h.1 hB,Mill.Reps.below (fun b hb=>⟨hb.1,Nat.lt_of_lt_of_le hb.2.1 hF.size,hb.2.2⟩) (fun b hb=>hF.keep b hb.2.1 (by omega)) _ _ h.2⟩
theorem Pa.Kf.set {k o:Nat} (h:Pa.Kf B W va vc l fs) (hk:k < B) (v:Value):Pa.Kf B (W.setCell ⟨k,o,none⟩ v) va vc l fs :=
 ⟨ownsRow_setCell_below h.1 (by simpa using hk) _,Mill.Reps.below (fun b hb=>⟨hb.1,by simpa [World.setCell] using hb.2.1,hb.2.2⟩) (fun b hb=>Below.heap_setCell _ _ _ _ (by simp only;omega)) _ _ h.2⟩
theorem Pa.Kf.blk (h:Pa.Kf B W va vc l fs) {k:Nat} (hk:(Value.slice va fs.length vc).ownBlock=some k):k < W.heap.size∧B≤k:=by
 have:=(Pa.row_type h.1 hk).1
 exact ⟨this.2,this.1⟩
theorem Pa.rb_prog {C:Nat} (h:Pa.Kf B W va vc l fs) (hC:C≤B) (hl:fs.length≤100000):Pa.Rb C W (Pa.br 24 0 0 [] l) (.iface 51 (.agg #[.slice va fs.length vc])):=by
 refine Pa.rb_mk ⟨24,0,0,0,Mill.ba [],_⟩ l (fs.map Mill.fnV) _ (by simp) (by simp) ⟨fs,.slice va fs.length vc,rfl, ?_,rfl⟩ (Mill.Reps.below (fun b hb=>⟨by omega,hb.2.1⟩) (fun b hb=>rfl) _ _ h.2) (by simpa using hl)
 have h1:=h.1
 rcases h1.2 with ⟨he,h0⟩ | ⟨b,cap,cur,he,hb,hg,hrest⟩
 ·injection he with e1 e2 e3
  have:fs=[]:=List.eq_nil_of_length_eq_zero (by omega)
  subst this
  exact ⟨va,vc,rfl,fun j u hj=>by simp at hj⟩
 ·injection he with e1 e2 e3
  exact ⟨va,vc,rfl,fun j u hj=>⟨b,e1,⟨by omega,(Array.getElem?_eq_some_iff.1 hg).1⟩,Pa.own_cells h1 (by rw [e1];simp [Value.ownBlock]) j u hj⟩⟩
theorem Pa.step_fn {ops:Array Oper} {o:Oper} {A:Act} {K:Act→World→Prop} {Q:Exit→Act→World→Prop} {EE:Prop} (hg:o.guard=none) (s' y:Operand)
  (hop:o.op=Op.call { callee:=Callee.builtin Builtin.append,args := #[s',y],argTypes := #[49,49] }) {C n:Nat} {t:Mill.Tr} {f:Mill.FnR} (hn:fs.length=n) (hK:Pa.Kf B W va vc l fs) (hu:Pa.Rb C W t (Mill.fnV f)) (hC:B≤C) (hk:∀ k,(Value.slice va fs.length vc).ownBlock=some k→k < C) (hBW:B≤W.heap.size) (hl:n+1≤1000000) (hgB:g < B) (hgW:g < W.heap.size) (hs:A.eval s' = .slice va n vc) (hy:A.eval y = .slice (some ⟨W.heap.size,0,none⟩) 1 1)
  (hK2:∀ a' c' w',Pa.Kf B w' a' c' (l++[t]) (fs++[f])→(∀ V,Pa.Fr g V W→V.heap.size≤B→Pa.Fr g V w')→(∀ ts a c E i,Pa.P ts g a c E i W→Pa.P ts g a c E i w')→(W.heap.size≤w'.heap.size∧∀ k,k < B→k < W.heap.size→w'.heap[k]? = W.heap[k]?)→K (A.put o.dst (.slice a' (n+1) c')) w') :
  if Region.wanted o (yielded ops A.tmps)=true then Oper.wp Tryz.prog o A (W.alloc (.cells #[.string f.name,.int .i64 f.result,.slice f.sa f.sn f.sc,.slice f.ba f.bn f.bc] 79)) K Q else EE:=by
 subst hn
 have hw:Region.wanted o (yielded ops A.tmps)=true:=by simp [Region.wanted,hg]
 rw [if_pos hw]
 obtain ⟨i0,hi0,hy0,hy1,hy2⟩:=info_parts Tryz.infoFnP
 obtain ⟨a',c',w',hr,h2,h4,hb,h3,h5,h6⟩:=Pa.run_put (g:=g) o.type 49 79 i0 _ 4 72 Tryz.underlying49 hi0 hy0 hy1 hy2 rfl (by decide) (by decide) hK.1 [.string f.name,.int .i64 f.result,.slice f.sa f.sn f.sc,.slice f.ba f.bn f.bc] rfl (by intro u hu;simp at hu;rcases hu with rfl | rfl | rfl | rfl <;> rfl) hBW hl hgB hgW
 have hba:Below W.heap.size W (W.alloc (.cells [.string f.name,.int .i64 f.result,.slice f.sa f.sn f.sc,.slice f.ba f.bn f.bc].toArray 79)):=(Below.refl _ _).alloc (Nat.le_refl _) _
 unfold Oper.wp execOp
 simp only [hop,resolve,invoke,builtin,Sem.run_bind,Sem.run_pure,Result.andThen_ok,List.map_toArray,List.map_cons,List.map_nil,hs,hy,hr]
 refine hK2 a' c' w' ⟨?_, ?_⟩ h3 h5 h6
 ·rw [List.length_append]
  simpa [Mill.fnC,Mill.FnR.sp,Mill.FnR.sb] using h2
 ·rw [List.map_append,List.length_append]
  have hkp:∀ b,b < W.heap.size→(Value.slice va fs.length vc).ownBlock≠some b→w'.heap[b]? = W.heap[b]?:=fun b h1 h2=>by
   rw [h4.block b (Nat.lt_of_lt_of_le h1 hba.size) (fun e=>h2 e.symm)];exact hba.block b h1
  have hno:∀ b,b < W.heap.size→(Value.slice va fs.length vc).ownBlock≠some b→(Value.slice a' (fs.length+[f].length) c').ownBlock≠some b:=by
   intro b h1 h2
   rcases hb with hb | hb
   ·exact hb ▸ h2
   ·intro e
    have e2:=hb.symm.trans e
    simp at e2
    omega
  refine Mill.Reps.app _ _ _ _ (Mill.Reps.below (fun b h=>⟨h.1,Nat.lt_of_lt_of_le h.2.1 h6.1,hno b h.2.1 h.2.2⟩) (fun b h=>hkp b h.2.1 h.2.2) _ _ hK.2) ?_
  rw [List.map_cons,List.map_nil,Mill.Reps]
  have hne:∀ b,C≤b→(Value.slice va fs.length vc).ownBlock≠some b:=fun b h e=>by have:=hk b e;omega
  exact ⟨_,[],rfl,Mill.Rep.below (fun b h=>⟨by omega,Nat.lt_of_lt_of_le h.2 h6.1,hno b h.2 (hne b h.1)⟩) (fun b h=>hkp b h.2 (hne b h.1)) t _ hu,by rw [Mill.Reps]⟩
def Pa.AnsG (ts:List (Mill.Piece × Nat)) (g:Nat) (a:Option Addr) (c E:Nat) (r:Except Nat (List Mill.Tr × Nat)) (w:World) (e:Ending) (w':World):Prop:=match r with
 | .ok p => ∃ va n vc,e = .returned (.agg #[.slice va n vc])∧Pa.Rb w.heap.size w' (Pa.br 24 0 0 [] p.1) (.iface 51 (.agg #[.slice va n vc]))∧Pa.Pt ts g a c E p.2 w w'
 | .error k=>e=Pa.pan ts E k∧Pa.Fr g w w'
structure Pa.Gw (ts:List (Mill.Piece × Nat)) (g:Nat) (a:Option Addr) (c E:Nat) (w:World) (p:Nat) (W:World) (va:Option Addr) (vc:Nat) (l:List Mill.Tr) (fs:List Mill.FnR):Prop where
 T:Pa.Pt ts g a c E p w W
 res:W.heap[w.heap.size]? = some (.cells #[.slice none 0 0] 51)
 var:W.heap[w.heap.size+1]? = some (.cells #[.slice va fs.length vc] 51)
 K:Pa.Kf (w.heap.size+2) W va vc l fs
 gw:g < w.heap.size
variable {p2:Nat}
theorem Pa.Gw.to (h:Pa.Gw ts g a c E w p W va vc l fs) (hT:Pa.Pt ts g a c E p2 W W2):Pa.Gw ts g a c E w p2 W2 va vc l fs:=by
 have hg:=h.gw
 have h1:=(Array.getElem?_eq_some_iff.1 h.res).1
 have h2:=(Array.getElem?_eq_some_iff.1 h.var).1
 exact ⟨h.T.to hT,(hT.2.keep _ h1 (by omega)).trans h.res,(hT.2.keep _ h2 (by omega)).trans h.var,h.K.fr hT.2 (by omega),hg⟩
theorem Pa.Gw.cells (h:Pa.Gw ts g a c E w p W va vc l fs):W.cell? ⟨w.heap.size,0,none⟩=some (.slice none 0 0)∧W.cell? ⟨w.heap.size+1,0,none⟩=some (.slice va fs.length vc)∧(∀ k,W.frozen? ⟨w.heap.size,k,none⟩=false)∧∀ k,W.frozen? ⟨w.heap.size+1,k,none⟩=false:=by
 have h1:=h.res
 have h2:=h.var
 refine ⟨?_, ?_,fun k => ?_,fun k => ?_⟩
 ·rw [Lib.cell_of_heap h1];rfl
 ·rw [Lib.cell_of_heap h2];rfl
 ·simp [World.frozen?,h1]
 ·simp [World.frozen?,h2]
theorem Pa.Gw.store {a':Option Addr} {c':Nat} {l':List Mill.Tr} {fs':List Mill.FnR} (h:Pa.Gw ts g a c E w p W va vc l fs) (hK:Pa.Kf (w.heap.size+2) W2 a' c' l' fs') (hFg:∀ V,Pa.Fr g V W→V.heap.size≤w.heap.size+2→Pa.Fr g V W2) (hPg:∀ ts a c E i,Pa.P ts g a c E i W→Pa.P ts g a c E i W2) (hk:W.heap.size≤W2.heap.size∧∀ k,k < w.heap.size+2→k < W.heap.size→W2.heap[k]? = W.heap[k]?):Pa.Gw ts g a c E w p (W2.setCell ⟨w.heap.size+1,0,none⟩ (.slice a' fs'.length c')) a' c' l' fs':=by
 have hg:=h.gw
 have h1:=(Array.getElem?_eq_some_iff.1 h.res).1
 have h2:=(Array.getElem?_eq_some_iff.1 h.var).1
 have hF2:=hFg w h.T.2 (by omega)
 have hP2:=hPg _ _ _ _ _ h.T.1
 refine ⟨Pa.Pt.setB ⟨hP2,hF2⟩ (by omega) hg _, ?_, ?_,hK.set (by omega) _,hg⟩
 ·rw [Below.heap_setCell _ _ _ _ (by simp only;omega),hk.2 _ (by omega) h1];exact h.res
 ·have:=(hk.2 _ (by omega) h2).trans h.var
  simp [World.setCell,Array.getElem?_modify,this]
theorem Pa.Gw.drew (h:Pa.Gw ts g a c E w p W va vc l fs):Pa.Gw ts g a c E w p W.drew va vc l fs:=h.to ⟨h.T.1.below (Pa.below_drew (Below.refl _ _)),Pa.Fr.of_below (Pa.below_drew (Below.refl _ _))⟩
theorem Pa.Gw.start (hP:Pa.P ts g a c E p w):Pa.Gw ts g a c E w p ((w.alloc (.cells #[.slice none 0 0] 51)).alloc (.cells #[.slice none 0 0] 51)) none 0 [] []:=by
 have hb:Below w.heap.size w ((w.alloc (.cells #[.slice none 0 0] 51)).alloc (.cells #[.slice none 0 0] 51)):=((Below.refl _ _).alloc (Nat.le_refl _) _).alloc (by simp) _
 have h1:=heap_alloc_new w (.cells #[.slice none 0 0] 51)
 have h2:=heap_alloc_new (w.alloc (.cells #[.slice none 0 0] 51)) (.cells #[.slice none 0 0] 51)
 rw [World.size_alloc] at h2
 have hb2:Below (w.alloc (.cells #[.slice none 0 0] 51)).heap.size (w.alloc (.cells #[.slice none 0 0] 51)) ((w.alloc (.cells #[.slice none 0 0] 51)).alloc (.cells #[.slice none 0 0] 51)):=(Below.refl _ _).alloc (Nat.le_refl _) _
 exact ⟨⟨hP.below hb,Pa.Fr.of_below hb⟩,(hb2.block _ (by simp)).trans h1,h2,Pa.Kf.nil _ _,hP.lt⟩
theorem Pa.ifn_any (hG:Pa.Good ts) (n:Nat) (r:Except Nat (Mill.Tr × Nat)) (hr:Pa.ifn ts n i=some r) (hB:Pa.Tb g w) (hP:Pa.P ts g a c E i w) :
  Calls Tryz.prog 32 #[.pointer (some ⟨g,0,none⟩)] w (Pa.AnsF ts g a c E r w):=by
 cases n with
 | zero=>simp [Pa.ifn] at hr
 | succ n=>exact Pa.fn_go hG n r hr hB hP
theorem Pa.prog_any (hG:Pa.Good ts) (n:Nat) (r:Except Nat (List Mill.Tr × Nat)) (hr:Pa.iprog ts n [] i=some r) (hB:Pa.Tb g w) (hP:Pa.P ts g a c E i w) :
  Calls Tryz.prog 17 #[.pointer (some ⟨g,0,none⟩)] w (Pa.AnsG ts g a c E r w):=by
 have hgw:=hP.lt
 have hC:=Pa.Gw.start hP
 have HR:Hid (Pa.iprog ts n [] i=some r):=hr
 clear hr
 go_enter Tryz.func17,Tryz.ntmps17
 go_wp2_with fail
 go_loopw [4] (fun _ wr => ∃ (m:Nat) (us:List Mill.Tr) (fs:List Mill.FnR) (p:Nat) (oa:Option Addr) (oc:Nat),m≤n∧Pa.Gw ts g a c E w p wr oa oc us fs∧Pa.iprog ts m us p=some r∧fs.length=us.length∧us.length≤p) (fun _ wr=>Pa.leftP g ts.length wr)
 case atStart=>exact ⟨n,[],[],_,_,_,Nat.le_refl _,hC,HR.out,rfl,by simp⟩
 case round =>
  clear hC
  obtain ⟨m,us,fs,p,oa,oc,hm,hC,hL,hfu,hup⟩:=hrel
  obtain ⟨m,rfl⟩:∃ m',m=m'+1:=by
   cases m with
   | zero=>simp [Pa.iprog] at hL
   | succ m=>exact ⟨m,rfl⟩
  rw [Pa.iprog] at hL
  obtain ⟨c0,c1,c2,g1⟩:=hC.T.1.cells
  have hple:=hC.T.1.le
  have hplen:=hC.T.1.len
  have HFU:Hid (fs.length=us.length):=hfu
  have hfl:fs.length+1≤100000:=by omega
  clear hfu
  have hlp:Pa.leftP g ts.length wr=ts.length+1 - p:=hC.T.1.left
  by_cases hgo:p < ts.length
  ·rw [if_pos hgo] at hL
   have hgoI:(p:Int) < (ts.length:Int):=by omega
   go_wp2_with fail
   go_quiet (fail)
   obtain ⟨V,hV⟩:∃ V,wr.drewN nq=V:=⟨_,rfl⟩
   rw [hV]
   replace hC:Pa.Gw ts g a c E w p V oa oc us fs:=by rw [← hV];exact hC.to ⟨hC.T.1.below (Pa.below_drewN _ (Below.refl _ _)),Pa.Fr.of_below (Pa.below_drewN _ (Below.refl _ _))⟩
   clear hV c0 c1 c2 g1
   obtain ⟨z0,z3,f0,f1⟩:=hC.cells
   go_wp2_with fail
   have hub:fs.length+1≤1000000:=by omega
   have hcl:w.heap.size+2≤V.heap.size:=(Array.getElem?_eq_some_iff.1 hC.var).1
   have hCC:w.heap.size+2≤V.drew.heap.size:=hcl
   have hkC:∀ k,(Value.slice oa fs.length oc).ownBlock=some k→k < V.drew.heap.size:=fun k hk=>(hC.K.blk hk).1
   have hgd:g < V.drew.heap.size:=Nat.lt_of_lt_of_le (by omega) hcl
   have HBd:Pa.Tb g V.drew:=hB.fr hC.drew.T.2
   have HPd:Pa.P ts g a c E p V.drew:=hC.drew.T.1
   cases h4:Pa.ifn ts m p with
   | none=>rw [h4,Pa.bd_none] at hL;simp at hL
   | some q2 =>
    rw [h4] at hL
    have HE:Hid (∀ W,Pa.Tb g W→Pa.P ts g a c E p W→Calls Tryz.prog 32 #[.pointer (some ⟨g,0,none⟩)] W (Pa.AnsF ts g a c E q2 W)):=fun W hb hp=>Pa.ifn_any hG m q2 h4 hb hp
    cases q2 with
    | error k4 =>
     rw [Pa.bd_err,Option.some.injEq] at hL
     subst hL
     refine wp_region_held_drew (S:=fun V=>V.cell? ⟨w.heap.size+1,0,none⟩=some (.slice oa fs.length oc)) (by kernel_rfl) (z3) (fun hHeld => ?_)
     refine Tk 0 (.pointer (some ⟨w.heap.size+1,0,none⟩)) ?_
     try simp [Act.put]
     refine Tk 1 (.slice oa fs.length oc) ?_
     try simp [Act.put]
     refine Tk 2 (.pointer (some ⟨g,0,none⟩)) ?_
     try simp [Act.put]
     refine wpAnyH_ready (rs:=[3]) (by kernel_rfl) (by simp) ?_
     refine AllReadyH.cons rfl (fun KK hK => ?_) AllReadyH.nil
     go_simp
     (go_at_call 32;refine (HE.out _ HBd HPd).mono ?_;rintro e V4 ⟨rfl,hF'⟩;have hF:=hC.drew.T.2.trans hF';unfold Pa.pan;exact And.intro rfl (And.intro rfl hF))
    | ok x4 =>
     rw [Pa.bd_ok] at hL
     have HL:Hid (Pa.iprog ts m (us++[x4.1]) x4.2=some r):=hL
     clear hL
     have hlt:=Pa.ifn_lt _ _ _ h4
     go_region_law (first
      | (go_simp;go_at_call 32;refine (HE.out _ HBd HPd).mono ?_;rintro e V4 ⟨f,rfl,hR,hT'⟩;rw [Mill.FnR.sp,Mill.FnR.sb];have hC4:=hC.drew.to hT';have z1:=hC4.cells.2.1;have z2:(V4.alloc (.cells #[.string f.name,.int .i64 f.result,.slice f.sa f.sn f.sc,.slice f.ba f.bn f.bc] 79)).cell? ⟨w.heap.size+1,0,none⟩=some (.slice oa fs.length oc):=(by rw [World.cell?_alloc_lt _ _ ⟨w.heap.size+1,0,none⟩ (World.block_lt_of_cell? _ _ z1)];exact z1);(try simp only))
      | (refine Pa.step_fn (g:=g) rfl (.tmp 15) (.tmp 18) rfl rfl hC4.K hR hCC hkC (Nat.le_trans hCC hT'.2.size) hub (by omega) (Nat.lt_of_lt_of_le hgd hT'.2.size) rfl rfl ?_;intro a' c' w5 hK5 hFg hPg hsz5;have u1:w5.cell? ⟨w.heap.size+1,0,none⟩=some (.slice oa fs.length oc):=(by rw [World.cell?_of_block (hsz5.2 (w.heap.size+1) (by omega) (World.block_lt_of_cell? _ _ z1))];exact z1);have u2:w5.frozen? ⟨w.heap.size+1,0,none⟩=false:=(by rw [World.frozen?_of_block (hsz5.2 (w.heap.size+1) (by omega) (World.block_lt_of_cell? _ _ z1))];exact hC4.cells.2.2.2 0)))
     all_goals
      have e5:(fs++[f]).length=fs.length+1:=by simp
      have hC5:=hC4.store hK5 hFg hPg hsz5
      rw [e5] at hC5
      go_wp2_with fail
      go_roundw
      case rel=>exact ⟨m,us++[x4.1],fs++[f],x4.2,a',c',by omega,hC5,HL.out,by simp [HFU.out],by simp;omega⟩
      case measure=>rw [hlp,hC5.T.1.left];have:=hC5.T.1.le;omega
  ·rw [if_neg hgo,Option.some.injEq] at hL
   subst hL
   have hgoI:¬ (p:Int) < (ts.length:Int):=by omega
   go_wp2_with fail
   go_quiet (fail)
   obtain ⟨V,hV⟩:∃ V,wr.drewN nq=V:=⟨_,rfl⟩
   rw [hV]
   replace hC:Pa.Gw ts g a c E w p V oa oc us fs:=by rw [← hV];exact hC.to ⟨hC.T.1.below (Pa.below_drewN _ (Below.refl _ _)),Pa.Fr.of_below (Pa.below_drewN _ (Below.refl _ _))⟩
   clear hV c0 c1 c2 g1
   obtain ⟨z0,z3,f0,f1⟩:=hC.cells
   go_wp2_with fail
   have y0:=World.cell?_setCell_same _ ⟨w.heap.size,0,none⟩ (.slice oa fs.length oc) z0
   refine bodyPost_ret (v:=.agg #[.slice oa fs.length oc]) (by simp [results,Tryz.results17,go_sem,y0]) rfl ?_
   exact ⟨oa,_,oc,rfl,Pa.rb_prog (hC.K.set (by omega) _) (by omega) (by omega),hC.T.setB (Nat.le_refl _) hgw _⟩
end Go.Proofs.YtlcckaffhnjneaaGreatDoor
