import Derived.Test.YtlcckaffhnjneaaGreatDoorKPcR
set_option maxRecDepth 100000
set_option maxHeartbeats 2000000
namespace Go.Proofs.YtlcckaffhnjneaaGreatDoor
open Go.RowKit
variable {ts:List (Mill.Piece × Nat)} {g:Nat} {a:Option Addr} {c E i j:Nat} {w W W2:World}
theorem Pa.run_put (T t e:TypeId) (i:TypeInfo) (z:Value) (size bytes:Nat) (ht:Tryz.prog.underlying t=some (.slice e)) (hi:Tryz.prog.info? e=some i) (hz:i.zero=some z) (hsize:i.size=size) (hby:i.bytes=bytes) (hzs:z.cells.size=size) (hs0:0 < size) (hbb:bytes≤1000) {B n vc:Nat} {va:Option Addr} {xs:List Value} (h1:W.ownsRow B e size (.slice va n vc) n xs) (cs:List Value) (hcs:cs.length=size) (h1c:∀ u ∈ cs,u.oneCell'=true) (hBW:B≤W.heap.size) (hl:n+1≤1000000) (hgB:g < B) (hgW:g < W.heap.size) :
  ∃ a' c' w',(Builtin.append_ #[t,t] T #[.slice va n vc,.slice (some ⟨W.heap.size,0,none⟩) 1 1]).run Tryz.prog (W.alloc (.cells cs.toArray e)) = .ok (.slice a' (n+1) c') w'∧w'.ownsRow B e size (.slice a' (n+1) c') (n+1) (xs++cs)∧(W.alloc (.cells cs.toArray e)).grownBy w' (Value.slice va n vc).ownBlock∧((Value.slice a' (n+1) c').ownBlock=(Value.slice va n vc).ownBlock∨(Value.slice a' (n+1) c').ownBlock=some (W.alloc (.cells cs.toArray e)).heap.size)∧(∀ V,Pa.Fr g V W→V.heap.size≤B→Pa.Fr g V w')∧(∀ ts a c E i,Pa.P ts g a c E i W→Pa.P ts g a c E i w')∧(W.heap.size≤w'.heap.size∧∀ k,k < B→k < W.heap.size→w'.heap[k]? = W.heap[k]?):=by
 have hba:Below W.heap.size W (W.alloc (.cells cs.toArray e)):=(Below.refl _ _).alloc (Nat.le_refl _) _
 have h1':=Mill.own_below h1 hba
 have hsrc:Pa.Src (W.alloc (.cells cs.toArray e)) (some ⟨W.heap.size,0,none⟩) 1 cs:=fun _=>⟨_,rfl,fun j u hj=>by
  exact Mill.cell_new W cs.toArray e j _ (by simpa using hj)⟩
 obtain ⟨v',w',hr,h3,h4,h5⟩:=Pa.run_append_at (P:=Tryz.prog) (w:=W.alloc (.cells cs.toArray e)) B t T e i z size bytes ht hi hz hsize hby hzs hs0 _ _ _ h1' (some ⟨W.heap.size,0,none⟩) 1 1 cs (by omega) hsrc h1c (by unfold maxLen;omega) (Nat.le_trans (Nat.mul_le_mul hl hbb) (by decide)) (by simp only [World.size_alloc];omega)
 obtain ⟨a',c',hv⟩:=Pa.rowLen h3
 rw [hv] at h3 h5 hr
 have hkeep:∀ k,k < B→k < W.heap.size→w'.heap[k]? = W.heap[k]?:=fun k hk1 hk2=>by
  rw [h4.block k (by simp only [World.size_alloc];omega) (fun e => ?_)]
  ·exact hba.block k hk2
  ·rcases h1.2 with ⟨he,_⟩ | ⟨b,cap,cur,he,hb,_⟩
   ·rw [he] at e;simp [Value.ownBlock] at e
   ·rw [he] at e;simp [Value.ownBlock] at e;omega
 exact ⟨a',c',w',hr,h3,h4,h5,fun V hF hV=>⟨(h4.os.trans hba.os).trans hF.os,(h4.tape.trans hba.tape).trans hF.tape,(h4.output.trans hba.output).trans hF.output,Nat.le_trans hF.size (Nat.le_trans hba.size h4.size),fun k hk1 hk2=>(hkeep k (by omega) (Nat.lt_of_lt_of_le hk1 hF.size)).trans (hF.keep k hk1 hk2)⟩,fun ts a c E i hP=>⟨(hkeep g hgB hgW).trans hP.blk,hP.tks.keep fun k hk=>hkeep k (by omega) (by omega),hP.le,hP.len,hP.cap⟩,Nat.le_trans hba.size h4.size,hkeep⟩
theorem Tryz.infoParamP : (Tryz.prog.info? 135).map (fun i=>(i.zero,i.size,i.bytes))=some (some (.agg #[.string ByteArray.empty,.int .i64 0]),2,24):=by kernel_rfl
def Pa.pl (q:List UInt8 × Nat):Mill.Tr:=Pa.lf 22 0 (q.2:Int) 0 q.1
def Pa.pp (q:List UInt8 × Nat):ByteArray × Int:=(Mill.ba q.1,(q.2:Int))
def Pa.Pr (B:Nat) (W:World) (va:Option Addr) (vc:Nat) (qs:List (List UInt8 × Nat)):Prop:=W.ownsRow B 135 2 (.slice va qs.length vc) qs.length (Mill.prC (qs.map Pa.pp))
theorem Pa.Pr.nil (B:Nat) (W:World):Pa.Pr B W none 0 []:=⟨rfl,.inl ⟨rfl,rfl⟩⟩
theorem Pa.Pr.fr {B:Nat} {va:Option Addr} {vc:Nat} {qs:List (List UInt8 × Nat)} (h:Pa.Pr B W va vc qs) (hF:Pa.Fr g W W2) (hB:g < B):Pa.Pr B W2 va vc qs:=hF.own h hB
theorem Pa.Pr.mono {B C:Nat} {va:Option Addr} {vc:Nat} {qs:List (List UInt8 × Nat)} (h:Pa.Pr B W va vc qs) (hC:C≤B):Pa.Pr C W va vc qs:=Pa.own_mono h hC
theorem Pa.wp_par {ops:Array Oper} {rest:List Oper} {o:Oper} {A:Act} {Q:Exit→Act→World→Prop} (hgd:o.guard=none) (s' y:Operand)
  (ho:o.op = .call { callee:=.builtin .append,args := #[s',y],argTypes := #[75,75] }) {B vc n:Nat} {va:Option Addr} {qs:List (List UInt8 × Nat)} (q:List UInt8 × Nat) {X:ByteArray} {Y:Int} (hX:Mill.ba q.1=X) (hY:(q.2:Int)=Y) (hK:Pa.Pr B W va vc qs) (hs:A.eval s' = .slice va n vc) (hn:qs.length=n) (hy:A.eval y = .slice (some ⟨W.heap.size,0,none⟩) 1 1) (hBW:B≤W.heap.size) (hl:n+1≤1000000) (hgB:g < B) (hgW:g < W.heap.size)
  (h:∀ a' c' w',Pa.Pr B w' a' c' (qs++[q])→(∀ V,Pa.Fr g V W→V.heap.size≤B→Pa.Fr g V w')→(∀ ts a c E i,Pa.P ts g a c E i W→Pa.P ts g a c E i w')→wpList Tryz.prog ops Q rest (A.put o.dst (.slice a' (n+1) c')) w') :
  wpList Tryz.prog ops Q (o::rest) A (W.alloc (.cells #[.string X,.int .i64 Y] 135)):=by
 subst hn
 subst hX
 subst hY
 obtain ⟨i0,hi0,hy0,hy1,hy2⟩:=info_parts Tryz.infoParamP
 obtain ⟨a',c',w',hr,h2,_,_,h3,h4,h5⟩:=Pa.run_put (g:=g) o.type 75 135 i0 _ 2 24 Tryz.underlying75 hi0 hy0 hy1 hy2 rfl (by decide) (by decide) hK [.string (Mill.ba q.1),.int .i64 (q.2:Int)] rfl (by intro u hu;simp at hu;rcases hu with rfl | rfl <;> rfl) hBW hl hgB hgW
 refine wpList_plain hgd fun K hK2 => ?_
 unfold Oper.wp execOp
 simp only [ho,resolve,invoke,builtin,Sem.run_bind,Sem.run_pure,Result.andThen_ok,List.map_toArray,List.map_cons,List.map_nil,hs,hy,hr]
 refine hK2 _ _ (h a' c' w' ?_ h3 h4)
 unfold Pa.Pr
 rw [List.length_append,List.map_append]
 simpa [Mill.prC,Pa.pp] using h2
def Pa.AnsP (ts:List (Mill.Piece × Nat)) (g:Nat) (a:Option Addr) (c E:Nat) (r:Except Nat (List Mill.Tr × Nat)) (w:World) (e:Ending) (w':World):Prop:=match r with
 | .ok p => ∃ va vc,e = .returned (.slice va p.1.length vc)∧(∃ qs,p.1=qs.map Pa.pl∧Pa.Pr w.heap.size w' va vc qs)∧Pa.Pt ts g a c E p.2 w w'
 | .error k=>e=Pa.pan ts E k∧Pa.Fr g w w'
theorem Pa.pars_any (n:Nat) (r:Except Nat (List Mill.Tr × Nat)) (hr:Pa.ipars ts n [] i=some r) (hB:Pa.Tb g w) (hP:Pa.P ts g a c E i w) :
  Calls Tryz.prog 69 #[.pointer (some ⟨g,0,none⟩)] w (Pa.AnsP ts g a c E r w):=by
 have hT:Pa.Pt ts g a c E i w w:=⟨hP,Pa.Fr.refl _ _⟩
 have hgw:=hP.lt
 have HR:Hid (Pa.ipars ts n [] i=some r):=hr
 clear hr
 go_enter Tryz.func69,Tryz.ntmps69
 go_wp2_with fail
 go_loopw [3,4] (fun ov _ wr => ∃ (m:Nat) (qs:List (List UInt8 × Nat)) (p:Nat) (oa:Option Addr) (oc:Nat),m≤n∧ov = .slice oa qs.length oc∧Pa.Pr w.heap.size wr oa oc qs∧Pa.Pt ts g a c E p w wr∧Pa.ipars ts m (qs.map Pa.pl) p=some r∧qs.length≤p) (fun _ _ wr=>Pa.leftP g ts.length wr)
 case atStart=>exact ⟨n,[],_,_,_,Nat.le_refl _,rfl,Pa.Pr.nil _ _,hT,HR.out,by simp⟩
 case round =>
  clear hT HR
  obtain ⟨m,qs,p,oa,oc,hm,rfl,hK,hT,hr,hup⟩:=hrel
  obtain ⟨m,rfl⟩:∃ m',m=m'+1:=by
   cases m with
   | zero=>simp [Pa.ipars] at hr
   | succ m=>exact ⟨m,rfl⟩
  rw [Pa.ipars] at hr
  have hub:qs.length+1≤1000000:=by have:=hT.1.le;have:=hT.1.len;omega
  have hap:qs.map Pa.pl++[Pa.lf 22 0 (Pa.wty ts (p+1):Int) 0 (Pa.tx ts p)]=(qs++[(Pa.tx ts p,Pa.wty ts (p+1))]).map Pa.pl:=by simp [Pa.pl]
  have HLP:Hid (Pa.leftP g ts.length wr=ts.length+1 - p):=hT.1.left
  by_cases h1:¬ Pa.kd ts p=1
  ·simp only [Pa.iname,h1,if_false,Pa.bd_err',Option.some.injEq] at hr
   subst hr
   have mk1:True:=trivial
   go_wp2_with (first | (have _t:=mk1;go_at_call 66;refine (Pa.iname_no h1 hT.1).mono ?_;rintro e W1 ⟨rfl,hT'⟩;have hF:=(hT.to hT').2;unfold Pa.pan;clear mk1))
   exact ⟨rfl,rfl,hF⟩
  replace h1:Pa.kd ts p=1:=Decidable.not_not.mp h1
  simp only [Pa.iname,h1,if_true,Pa.bd_ok'] at hr
  by_cases h2:Pa.wty ts (p+1)=0
  ·simp only [Pa.itype,h2,if_true,Pa.bd_err',Option.some.injEq] at hr
   subst hr
   have mk1:True:=trivial
   have mk2:True:=trivial
   go_wp2_with (first | (have _t:=mk1;go_at_call 66;refine (Pa.iname_ok h1 hT.1).mono ?_;rintro e W1 ⟨rfl,hT'⟩;replace hK:=hK.fr hT'.2 hgw;replace hT:=hT.to hT';clear hT';clear mk1) | (have _t:=mk2;go_at_call 70;refine (Pa.typeWord_no h2 (hB.fr hT.2) hT.1).mono ?_;rintro e W1 ⟨rfl,hT'⟩;have hF:=(hT.to hT').2;unfold Pa.pan;clear mk2))
   exact ⟨rfl,rfl,hF⟩
  simp only [Pa.itype,h2,if_false,Pa.bd_ok'] at hr
  cases h4:Pa.st ts 5 [41] ((p+1)+1) with
  | false =>
   simp only [h4,Bool.false_eq_true,if_false] at hr
   cases h5:Pa.st ts 5 [44] ((p+1)+1) with
   | false =>
    rw [Pa.nd_no h5,Pa.bd_err,Option.some.injEq] at hr
    subst hr
    have mk1:True:=trivial
    have mk2:True:=trivial
    have mk4:True:=trivial
    have mk5:True:=trivial
    go_wp2_with (first | (have _t:=mk1;go_at_call 66;refine (Pa.iname_ok h1 hT.1).mono ?_;rintro e W1 ⟨rfl,hT'⟩;replace hK:=hK.fr hT'.2 hgw;replace hT:=hT.to hT';clear hT';clear mk1) | (have _t:=mk2;go_at_call 70;refine (Pa.typeWord_ok h2 (hB.fr hT.2) hT.1).mono ?_;rintro e W1 ⟨rfl,hT'⟩;replace hK:=hK.fr hT'.2 hgw;replace hT:=hT.to hT';clear hT';clear mk2) | (refine Pa.wp_par (g:=g) rfl (.tmp 7) (.tmp 12) rfl (Pa.tx ts p,Pa.wty ts (p+1)) rfl rfl hK rfl rfl rfl hT.2.size hub hgw (Nat.lt_of_lt_of_le hgw hT.2.size) ?_;intro a' c' w5 hK5 hFg hPg;replace hK:=hK5;replace hT:Pa.Pt ts g a c E (p+1+1) w w5:=⟨hPg _ _ _ _ _ hT.1,hFg _ hT.2 (Nat.le_refl _)⟩;clear hK5 hFg hPg) | (have _t:=mk4;go_at_call 68;refine (Pa.takesM_any [41] hT.1).mono ?_;rintro e W1 ⟨rfl,hT'⟩;rw [h4] at hT' ⊢;replace hK:=hK.fr hT'.2 hgw;replace hT:Pa.Pt ts g a c E ((p+1)+1) w W1:=hT.to hT';clear hT';clear mk4) | (have _t:=mk5;go_at_call 67;refine (Pa.needsM_no [44] h5 hT.1).mono ?_;rintro e W1 ⟨rfl,hT'⟩;have hF:=(hT.to hT').2;unfold Pa.pan;clear mk5))
    exact ⟨rfl,rfl,hF⟩
   | true =>
    rw [Pa.nd_yes h5,Pa.bd_ok] at hr
    simp only at hr
    rw [hap] at hr
    have HL:Hid (Pa.ipars ts m ((qs++[(Pa.tx ts p,Pa.wty ts (p+1))]).map Pa.pl) (p+1+1+1)=some r):=hr
    clear hr
    have mk1:True:=trivial
    have mk2:True:=trivial
    have mk4:True:=trivial
    have mk5:True:=trivial
    go_wp2_with (first | (have _t:=mk1;go_at_call 66;refine (Pa.iname_ok h1 hT.1).mono ?_;rintro e W1 ⟨rfl,hT'⟩;replace hK:=hK.fr hT'.2 hgw;replace hT:=hT.to hT';clear hT';clear mk1) | (have _t:=mk2;go_at_call 70;refine (Pa.typeWord_ok h2 (hB.fr hT.2) hT.1).mono ?_;rintro e W1 ⟨rfl,hT'⟩;replace hK:=hK.fr hT'.2 hgw;replace hT:=hT.to hT';clear hT';clear mk2) | (refine Pa.wp_par (g:=g) rfl (.tmp 7) (.tmp 12) rfl (Pa.tx ts p,Pa.wty ts (p+1)) rfl rfl hK rfl rfl rfl hT.2.size hub hgw (Nat.lt_of_lt_of_le hgw hT.2.size) ?_;intro a' c' w5 hK5 hFg hPg;replace hK:=hK5;replace hT:Pa.Pt ts g a c E (p+1+1) w w5:=⟨hPg _ _ _ _ _ hT.1,hFg _ hT.2 (Nat.le_refl _)⟩;clear hK5 hFg hPg) | (have _t:=mk4;go_at_call 68;refine (Pa.takesM_any [41] hT.1).mono ?_;rintro e W1 ⟨rfl,hT'⟩;rw [h4] at hT' ⊢;replace hK:=hK.fr hT'.2 hgw;replace hT:Pa.Pt ts g a c E ((p+1)+1) w W1:=hT.to hT';clear hT';clear mk4) | (have _t:=mk5;go_at_call 67;refine (Pa.needsM_ok [44] h5 hT.1).mono ?_;rintro e W1 ⟨rfl,hT'⟩;replace hK:=hK.fr hT'.2 hgw;replace hT:=hT.to hT';clear hT';clear mk5))
    go_roundw
    case rel=>exact ⟨m,qs++[(Pa.tx ts p,Pa.wty ts (p+1))],p+1+1+1,a',c',by omega,by simp,hK,hT,HL.out,by simp;omega⟩
    case measure=>rw [HLP.out,hT.1.left];have:=hT.1.le;omega
  | true =>
   simp only [h4,if_true] at hr
   simp only [Option.some.injEq] at hr
   subst hr
   have mk1:True:=trivial
   have mk2:True:=trivial
   have mk4:True:=trivial
   go_wp2_with (first | (have _t:=mk1;go_at_call 66;refine (Pa.iname_ok h1 hT.1).mono ?_;rintro e W1 ⟨rfl,hT'⟩;replace hK:=hK.fr hT'.2 hgw;replace hT:=hT.to hT';clear hT';clear mk1) | (have _t:=mk2;go_at_call 70;refine (Pa.typeWord_ok h2 (hB.fr hT.2) hT.1).mono ?_;rintro e W1 ⟨rfl,hT'⟩;replace hK:=hK.fr hT'.2 hgw;replace hT:=hT.to hT';clear hT';clear mk2) | (refine Pa.wp_par (g:=g) rfl (.tmp 7) (.tmp 12) rfl (Pa.tx ts p,Pa.wty ts (p+1)) rfl rfl hK rfl rfl rfl hT.2.size hub hgw (Nat.lt_of_lt_of_le hgw hT.2.size) ?_;intro a' c' w5 hK5 hFg hPg;replace hK:=hK5;replace hT:Pa.Pt ts g a c E (p+1+1) w w5:=⟨hPg _ _ _ _ _ hT.1,hFg _ hT.2 (Nat.le_refl _)⟩;clear hK5 hFg hPg) | (have _t:=mk4;go_at_call 68;refine (Pa.takesM_any [41] hT.1).mono ?_;rintro e W1 ⟨rfl,hT'⟩;rw [h4] at hT' ⊢;replace hK:=hK.fr hT'.2 hgw;replace hT:Pa.Pt ts g a c E (((p+1)+1)+1) w W1:=hT.to hT';clear hT';clear mk4))
   go_ret
   rw [hap]
   exact ⟨a',c',by simp,⟨_,rfl,hK⟩,hT⟩
variable {ts:List (Mill.Piece × Nat)} {g:Nat} {a:Option Addr} {c E i j:Nat} {w W W2:World}
theorem Pa.Kr.setC {B k o:Nat} {va:Option Addr} {vc:Nat} {l:List Mill.Tr} (h:Pa.Kr B W va vc l) (hk:k < B) (v:Value):Pa.Kr B (W.setCell ⟨k,o,none⟩ v) va vc l:=h.set hk v
theorem Pa.Pr.setC {B k o:Nat} {va:Option Addr} {vc:Nat} {qs:List (List UInt8 × Nat)} (h:Pa.Pr B W va vc qs) (hk:k < B) (v:Value):Pa.Pr B (W.setCell ⟨k,o,none⟩ v) va vc qs:=ownsRow_setCell_below h (by simpa using hk) _
theorem Pa.Pt.setB (h:Pa.Pt ts g a c E j w W) {b k:Nat} (hb:w.heap.size≤b) (hg:g < w.heap.size) (v:Value):Pa.Pt ts g a c E j w (W.setCell ⟨b,k,none⟩ v):=by
 have hP:=h.1
 have hF:=h.2
 have hk:∀ x,x≠b→(W.setCell ⟨b,k,none⟩ v).heap[x]? = W.heap[x]?:=fun x hx=>Below.heap_setCell _ _ _ _ hx
 exact ⟨⟨(hk _ (by omega)).trans hP.blk,hP.tks.keep fun j hj=>hk _ (by omega),hP.le,hP.len,hP.cap⟩,⟨hF.os,hF.tape,hF.output,by simpa [World.setCell] using hF.size,fun j hj hjg=>(hk _ (by omega)).trans (hF.keep j hj hjg)⟩⟩
structure Pa.Fw (w:World) (b:Nat) (W:World) (X:ByteArray) (t:Int) (SP SB:Value):Prop where
 res:W.heap[w.heap.size]? = some (.cells #[.string ⟨#[]⟩,.int .i64 0,.slice none 0 0,.slice none 0 0] 79)
 var:W.heap[b]? = some (.cells #[.string X,.int .i64 t,SP,SB] 79)
 bw:w.heap.size < b
variable {b:Nat} {X:ByteArray} {t:Int} {SP SB:Value}
theorem Pa.Fw.fr (h:Pa.Fw w b W X t SP SB) (hF:Pa.Fr g W W2) (hg:g < w.heap.size):Pa.Fw w b W2 X t SP SB:=by
 have hb:=h.bw
 exact ⟨(hF.keep _ (Array.getElem?_eq_some_iff.1 h.res).1 (by omega)).trans h.res,(hF.keep _ (Array.getElem?_eq_some_iff.1 h.var).1 (by omega)).trans h.var,hb⟩
theorem Pa.Fw.cells (h:Pa.Fw w b W X t SP SB):(W.cell? ⟨w.heap.size,0,none⟩=some (.string ⟨#[]⟩)∧W.cell? ⟨w.heap.size,1,none⟩=some (.int .i64 0)∧W.cell? ⟨w.heap.size,2,none⟩=some (.slice none 0 0)∧W.cell? ⟨w.heap.size,3,none⟩=some (.slice none 0 0))∧(W.cell? ⟨b,0,none⟩=some (.string X)∧W.cell? ⟨b,1,none⟩=some (.int .i64 t)∧W.cell? ⟨b,2,none⟩=some SP∧W.cell? ⟨b,3,none⟩=some SB)∧(∀ k,W.frozen? ⟨w.heap.size,k,none⟩=false)∧∀ k,W.frozen? ⟨b,k,none⟩=false:=by
 have h1:=h.res
 have h2:=h.var
 refine ⟨⟨?_, ?_, ?_, ?_⟩,⟨?_, ?_, ?_, ?_⟩,fun k => ?_,fun k => ?_⟩
 ·rw [Lib.cell_of_heap h1];rfl
 ·rw [Lib.cell_of_heap h1];rfl
 ·rw [Lib.cell_of_heap h1];rfl
 ·rw [Lib.cell_of_heap h1];rfl
 ·rw [Lib.cell_of_heap h2];rfl
 ·rw [Lib.cell_of_heap h2];rfl
 ·rw [Lib.cell_of_heap h2];rfl
 ·rw [Lib.cell_of_heap h2];rfl
 ·simp [World.frozen?,h1]
 ·simp [World.frozen?,h2]
theorem Pa.Fw.set (h:Pa.Fw w b W X t SP SB) (k:Nat) (v:Value) (t':Int) (SP' SB':Value) (e:(#[.string X,.int .i64 t,SP,SB]:Array Value).setIfInBounds k v = #[.string X,.int .i64 t',SP',SB']):Pa.Fw w b (W.setCell ⟨b,k,none⟩ v) X t' SP' SB':=by
 have hb:=h.bw
 refine ⟨(Below.heap_setCell _ _ _ _ (by simp only;omega)).trans h.res, ?_,hb⟩
 rw [← e]
 simp [World.setCell,Array.getElem?_modify,h.var]
theorem Pa.Fw.start {V:World} (hR:V.heap[w.heap.size]? = some (.cells #[.string ⟨#[]⟩,.int .i64 0,.slice none 0 0,.slice none 0 0] 79)) (X:ByteArray):Pa.Fw w V.heap.size (V.alloc (.cells #[.string X,.int .i64 0,.slice none 0 0,.slice none 0 0] 79)) X 0 (.slice none 0 0) (.slice none 0 0):=by
 have hb:Below V.heap.size V (V.alloc (.cells #[.string X,.int .i64 0,.slice none 0 0,.slice none 0 0] 79)):=(Below.refl _ _).alloc (Nat.le_refl _) _
 have h1:=(Array.getElem?_eq_some_iff.1 hR).1
 exact ⟨(hb.block _ h1).trans hR,heap_alloc_new _ _,h1⟩
theorem Pa.res_fn (hP:Pa.P ts g a c E j w):∃ V,w.alloc (.cells #[.string ⟨#[]⟩,.int .i64 0,.slice none 0 0,.slice none 0 0] 79)=V∧V.heap[w.heap.size]? = some (.cells #[.string ⟨#[]⟩,.int .i64 0,.slice none 0 0,.slice none 0 0] 79)∧Pa.Pt ts g a c E j w V :=
 ⟨_,rfl,heap_alloc_new _ _,⟨hP.below ((Below.refl _ _).alloc (Nat.le_refl _) _),Pa.Fr.of_below ((Below.refl _ _).alloc (Nat.le_refl _) _)⟩⟩
theorem Pa.Pt.al (h:Pa.Pt ts g a c E j w W) (o:Obj):Pa.Pt ts g a c E j w (W.alloc o):=h.to ⟨h.1.below ((Below.refl _ _).alloc (Nat.le_refl _) _),Pa.Fr.of_below ((Below.refl _ _).alloc (Nat.le_refl _) _)⟩
theorem Pa.set4 {W:World} {n:Nat} {x0 x1 x2 x3 v0 v1 v2 v3:Value} (r0:W.cell? ⟨n,0,none⟩=some x0) (r1:W.cell? ⟨n,1,none⟩=some x1) (r2:W.cell? ⟨n,2,none⟩=some x2) (r3:W.cell? ⟨n,3,none⟩=some x3) :
  ((((W.setCell ⟨n,0,none⟩ v0).setCell ⟨n,1,none⟩ v1).setCell ⟨n,2,none⟩ v2).setCell ⟨n,3,none⟩ v3).cell? ⟨n,0,none⟩=some v0∧((((W.setCell ⟨n,0,none⟩ v0).setCell ⟨n,1,none⟩ v1).setCell ⟨n,2,none⟩ v2).setCell ⟨n,3,none⟩ v3).cell? ⟨n,1,none⟩=some v1∧((((W.setCell ⟨n,0,none⟩ v0).setCell ⟨n,1,none⟩ v1).setCell ⟨n,2,none⟩ v2).setCell ⟨n,3,none⟩ v3).cell? ⟨n,2,none⟩=some v2∧((((W.setCell ⟨n,0,none⟩ v0).setCell ⟨n,1,none⟩ v1).setCell ⟨n,2,none⟩ v2).setCell ⟨n,3,none⟩ v3).cell? ⟨n,3,none⟩=some v3:=by
 obtain ⟨y0,y1,y2⟩:=Pa.set3 (v0:=v0) (v1:=v1) (v2:=v2) r0 r1 r2
 refine ⟨?_, ?_, ?_, ?_⟩
 ·rw [World.cell?_setCell_other _ _ _ _ (by simp)];exact y0
 ·rw [World.cell?_setCell_other _ _ _ _ (by simp)];exact y1
 ·rw [World.cell?_setCell_other _ _ _ _ (by simp)];exact y2
 ·exact World.cell?_setCell_same _ _ _ (by rw [World.cell?_setCell_other _ _ _ _ (by simp),World.cell?_setCell_other _ _ _ _ (by simp),World.cell?_setCell_other _ _ _ _ (by simp)];exact r3)
theorem Pa.Pr.sl {B:Nat} {va:Option Addr} {vc:Nat} {qs:List (List UInt8 × Nat)} (h:Pa.Pr B W va vc qs):Mill.Sl (fun b=>B≤b∧b < W.heap.size) W (.slice va qs.length vc) (qs.map Pa.pp).length (Mill.prC (qs.map Pa.pp)):=by
 have h1:=h
 rcases h1.2 with ⟨he,h0⟩ | ⟨b,cap,cur,he,hb,hg,hrest⟩
 ·injection he with e1 e2 e3
  have:qs=[]:=List.eq_nil_of_length_eq_zero (by omega)
  subst this
  exact ⟨va,vc,rfl,fun j u hj=>by simp [Mill.prC] at hj⟩
 ·injection he with e1 e2 e3
  refine ⟨va,vc,by rw [List.length_map],fun j u hj=>⟨b,e1,⟨hb,(Array.getElem?_eq_some_iff.1 hg).1⟩, ?_⟩⟩
  exact Pa.own_cells h1 (by rw [e1];simp [Value.ownBlock]) j u hj
theorem Pa.rb_par (B:Nat) (W:World) (q:List UInt8 × Nat):Pa.Rb B W (Pa.pl q) (Mill.prV (Pa.pp q)) :=
 Pa.rb_mk ⟨22,0,(q.2:Int),0,Mill.ba q.1,0⟩ [] [] _ (by simp) (by simp) ⟨rfl,rfl⟩ (Pa.rbs_nil _ _) (by simp)
theorem Pa.rbs_par (B:Nat) (W:World):∀ qs:List (List UInt8 × Nat),Pa.Rbs B W (qs.map Pa.pl) ((qs.map Pa.pp).map Mill.prV)
 | []=>Pa.rbs_nil _ _
 | q::qs=>by
  unfold Pa.Rbs
  rw [List.map_cons,List.map_cons,List.map_cons,Mill.Reps]
  exact ⟨_,_,rfl,Pa.rb_par B W q,Pa.rbs_par B W qs⟩
theorem Pa.rb_fn {B:Nat} {sa va:Option Addr} {sc vc:Nat} {qs:List (List UInt8 × Nat)} {l:List Mill.Tr} (x:List UInt8) (t:Int) (h:Pa.Pr B W sa sc qs) (h2:Pa.Kr B W va vc l) (hq:qs.length≤90000) (hl:l.length≤100000):Pa.Rb B W (Pa.br 23 0 t x (qs.map Pa.pl++[Pa.br 21 0 0 [] l])) (.iface 79 (.agg #[.string (Mill.ba x),.int .i64 t,.slice sa qs.length sc,.slice va l.length vc])):=by
 refine Pa.rb_mk ⟨23,0,t,0,Mill.ba x,_⟩ _ ((qs.map Pa.pp).map Mill.prV++[Mill.blV (.slice va l.length vc)]) _ (by simp) (by simp) ⟨qs.map Pa.pp,.slice sa qs.length sc,.slice va l.length vc,rfl,h.sl,rfl⟩ (Mill.Reps.app _ _ _ _ (Pa.rbs_par B W qs) (Pa.rbs_one (Pa.rb_block h2 hl))) (by simp;omega)
def Pa.AnsF (ts:List (Mill.Piece × Nat)) (g:Nat) (a:Option Addr) (c E:Nat) (r:Except Nat (Mill.Tr × Nat)) (w:World) (e:Ending) (w':World):Prop:=match r with
 | .ok p => ∃ f:Mill.FnR,e = .returned (.agg #[.string f.name,.int .i64 f.result,f.sp,f.sb])∧Pa.Rb w.heap.size w' p.1 (Mill.fnV f)∧Pa.Pt ts g a c E p.2 w w'
 | .error k=>e=Pa.pan ts E k∧Pa.Fr g w w'
theorem Pa.ret4 {B n:Nat} {sa va:Option Addr} {sc vc:Nat} {qs:List (List UInt8 × Nat)} {l:List Mill.Tr} {v0 v1 v2 v3:Value} (hT:Pa.Pt ts g a c E n w W) (hg:g < w.heap.size) (hS:Pa.Pr B W sa sc qs) (hK:Pa.Kr B W va vc l) (hB:w.heap.size < B) :
  Pa.Pr w.heap.size ((((W.setCell ⟨w.heap.size,0,none⟩ v0).setCell ⟨w.heap.size,1,none⟩ v1).setCell ⟨w.heap.size,2,none⟩ v2).setCell ⟨w.heap.size,3,none⟩ v3) sa sc qs∧Pa.Kr w.heap.size ((((W.setCell ⟨w.heap.size,0,none⟩ v0).setCell ⟨w.heap.size,1,none⟩ v1).setCell ⟨w.heap.size,2,none⟩ v2).setCell ⟨w.heap.size,3,none⟩ v3) va vc l∧Pa.Pt ts g a c E n w ((((W.setCell ⟨w.heap.size,0,none⟩ v0).setCell ⟨w.heap.size,1,none⟩ v1).setCell ⟨w.heap.size,2,none⟩ v2).setCell ⟨w.heap.size,3,none⟩ v3) :=
 ⟨((((hS.setC hB _).setC hB _).setC hB _).setC hB _).mono (Nat.le_of_lt hB),((((hK.setC hB _).setC hB _).setC hB _).setC hB _).mono (Nat.le_of_lt hB),(((hT.setB (Nat.le_refl _) hg _).setB (Nat.le_refl _) hg _).setB (Nat.le_refl _) hg _).setB (Nat.le_refl _) hg _⟩
theorem Pa.fn_go (hG:Pa.Good ts) (n:Nat) (r:Except Nat (Mill.Tr × Nat)) (hr:Pa.ifn ts (n+1) i=some r) (hB:Pa.Tb g w) (hP:Pa.P ts g a c E i w) :
  Calls Tryz.prog 32 #[.pointer (some ⟨g,0,none⟩)] w (Pa.AnsF ts g a c E r w):=by
 have hgw:=hP.lt
 obtain ⟨V0,hV0,hres,hT⟩:=Pa.res_fn hP
 rw [Pa.ifn] at hr
 cases h1:Pa.st ts 2 [102,110] i with
 | false =>
  rw [Pa.nd_no h1,Pa.bd_err,Option.some.injEq] at hr
  subst hr
  have mk1:True:=trivial
  go_enter Tryz.func32,Tryz.ntmps32
  go_wp2_with (first | (have _t:=mk1;go_at_call 65;(try rw [hV0]);refine (Pa.needsW_no [102,110] h1 hT.1).mono ?_;rintro e W1 ⟨rfl,hT'⟩;have hF:=(hT.to hT').2;unfold Pa.pan;clear mk1))
  exact ⟨rfl,rfl,hF⟩
 | true =>
  rw [Pa.nd_yes h1,Pa.bd_ok] at hr
  simp only at hr
  by_cases h2:¬ Pa.kd ts (i+1)=1
  ·simp only [Pa.iname,h2,if_false,Pa.bd_err',Option.some.injEq] at hr
   subst hr
   have mk1:True:=trivial
   have mk2:True:=trivial
   go_enter Tryz.func32,Tryz.ntmps32
   go_wp2_with (first | (have _t:=mk1;go_at_call 65;(try rw [hV0]);refine (Pa.needsW_ok [102,110] h1 hT.1).mono ?_;rintro e W1 ⟨rfl,hT'⟩;replace hres:=(hT'.2.keep _ (Array.getElem?_eq_some_iff.1 hres).1 (Nat.ne_of_gt hgw)).trans hres;replace hT:=hT.to hT';clear hT';clear mk1) | (have _t:=mk2;go_at_call 66;(try rw [hV0]);refine (Pa.iname_no h2 hT.1).mono ?_;rintro e W1 ⟨rfl,hT'⟩;have hF:=(hT.to hT').2;unfold Pa.pan;clear mk2))
   exact ⟨rfl,rfl,hF⟩
  replace h2:Pa.kd ts (i+1)=1:=Decidable.not_not.mp h2
  simp only [Pa.iname,h2,if_true,Pa.bd_ok'] at hr
  cases h3:Pa.st ts 5 [40] ((i+1)+1) with
  | false =>
   rw [Pa.nd_no h3,Pa.bd_err,Option.some.injEq] at hr
   subst hr
   have mk1:True:=trivial
   have mk2:True:=trivial
   have mk3:True:=trivial
   go_enter Tryz.func32,Tryz.ntmps32
   go_wp2_with (first | (have _t:=mk1;go_at_call 65;(try rw [hV0]);refine (Pa.needsW_ok [102,110] h1 hT.1).mono ?_;rintro e W1 ⟨rfl,hT'⟩;replace hres:=(hT'.2.keep _ (Array.getElem?_eq_some_iff.1 hres).1 (Nat.ne_of_gt hgw)).trans hres;replace hT:=hT.to hT';clear hT';clear mk1) | (have _t:=mk2;go_at_call 66;(try rw [hV0]);refine (Pa.iname_ok h2 hT.1).mono ?_;rintro e W1 ⟨rfl,hT'⟩;replace hres:=(hT'.2.keep _ (Array.getElem?_eq_some_iff.1 hres).1 (Nat.ne_of_gt hgw)).trans hres;replace hT:=hT.to hT';clear hT';have hC:=Pa.Fw.start hres (Mill.ba (Pa.tx ts (i+1)));have hgB:g < W1.heap.size+1:=Nat.lt_of_lt_of_le hgw (Nat.le_succ_of_le hT.2.size);replace hT:=hT.al (.cells #[.string (Mill.ba (Pa.tx ts (i+1))),.int .i64 0,.slice none 0 0,.slice none 0 0] 79);clear hres;clear mk2) | (have _t:=mk3;go_at_call 67;(try rw [hV0]);refine (Pa.needsM_no [40] h3 hT.1).mono ?_;rintro e W1 ⟨rfl,hT'⟩;have hF:=(hT.to hT').2;unfold Pa.pan;clear mk3))
   exact ⟨rfl,rfl,hF⟩
  | true =>
   rw [Pa.nd_yes h3,Pa.bd_ok] at hr
   simp only at hr
   cases h4:Pa.st ts 5 [41] (((i+1)+1)+1) with
   | false =>
    simp only [h4,Bool.false_eq_true,if_false] at hr
    cases h5:Pa.ipars ts n [] (((i+1)+1)+1) with
    | none=>rw [h5,Pa.bd_none] at hr;simp at hr
    | some q5 =>
     rw [h5] at hr
     have HE5:Hid (∀ W,Pa.Tb g W→Pa.P ts g a c E (((i+1)+1)+1) W→Calls Tryz.prog 69 #[.pointer (some ⟨g,0,none⟩)] W (Pa.AnsP ts g a c E q5 W)):=fun W hb hp=>Pa.pars_any n q5 h5 hb hp
     cases q5 with
     | error e1 =>
      rw [Pa.bd_err,Option.some.injEq] at hr
      subst hr
      have mk1:True:=trivial
      have mk2:True:=trivial
      have mk3:True:=trivial
      have mk4:True:=trivial
      have mk5:True:=trivial
      go_enter Tryz.func32,Tryz.ntmps32
      go_wp2_with (first | (have _t:=mk1;go_at_call 65;(try rw [hV0]);refine (Pa.needsW_ok [102,110] h1 hT.1).mono ?_;rintro e W1 ⟨rfl,hT'⟩;replace hres:=(hT'.2.keep _ (Array.getElem?_eq_some_iff.1 hres).1 (Nat.ne_of_gt hgw)).trans hres;replace hT:=hT.to hT';clear hT';clear mk1) | (have _t:=mk2;go_at_call 66;(try rw [hV0]);refine (Pa.iname_ok h2 hT.1).mono ?_;rintro e W1 ⟨rfl,hT'⟩;replace hres:=(hT'.2.keep _ (Array.getElem?_eq_some_iff.1 hres).1 (Nat.ne_of_gt hgw)).trans hres;replace hT:=hT.to hT';clear hT';have hC:=Pa.Fw.start hres (Mill.ba (Pa.tx ts (i+1)));have hgB:g < W1.heap.size+1:=Nat.lt_of_lt_of_le hgw (Nat.le_succ_of_le hT.2.size);replace hT:=hT.al (.cells #[.string (Mill.ba (Pa.tx ts (i+1))),.int .i64 0,.slice none 0 0,.slice none 0 0] 79);clear hres;clear mk2) | (have _t:=mk3;go_at_call 67;(try rw [hV0]);refine (Pa.needsM_ok [40] h3 hT.1).mono ?_;rintro e W1 ⟨rfl,hT'⟩;replace hC:=hC.fr hT'.2 hgw;replace hT:=hT.to hT';clear hT';clear mk3) | (have _t:=mk4;go_at_call 68;(try rw [hV0]);refine (Pa.takesM_any [41] hT.1).mono ?_;rintro e W1 ⟨rfl,hT'⟩;rw [h4] at hT' ⊢;replace hC:=hC.fr hT'.2 hgw;replace hT:Pa.Pt ts g a c E (((i+1)+1)+1) w W1:=hT.to hT';clear hT';clear mk4) | (have _t:=mk5;go_at_call 69;(try rw [hV0]);refine (HE5.out _ (hB.fr hT.2) hT.1).mono ?_;rintro e V ⟨rfl,hF'⟩;have hF:=hT.2.trans hF';unfold Pa.pan;clear mk5))
      exact ⟨rfl,rfl,hF⟩
     | ok x5 =>
      rw [Pa.bd_ok] at hr
      cases h6:Pa.st ts 5 [45,62] x5.2 with
      | false =>
       simp only [h6,Bool.false_eq_true,if_false] at hr
       simp only [Pa.bd_ok'] at hr
       cases h7:Pa.iblock ts n x5.2 with
       | none=>rw [h7,Pa.bd_none] at hr;simp at hr
       | some q7 =>
        rw [h7] at hr
        have HE7:Hid (∀ W,Pa.Tb g W→Pa.P ts g a c E x5.2 W→Calls Tryz.prog 71 #[.pointer (some ⟨g,0,none⟩)] W (Pa.AnsB ts g a c E q7 W)):=fun W hb hp=>Pa.bl_any hG n q7 h7 hb hp
        cases q7 with
        | error e1 =>
         rw [Pa.bd_err,Option.some.injEq] at hr
         subst hr
         have mk1:True:=trivial
         have mk2:True:=trivial
         have mk3:True:=trivial
         have mk4:True:=trivial
         have mk5:True:=trivial
         have mk6:True:=trivial
         have mk7:True:=trivial
         go_enter Tryz.func32,Tryz.ntmps32
         go_wp2_with (first | (have _t:=mk1;go_at_call 65;(try rw [hV0]);refine (Pa.needsW_ok [102,110] h1 hT.1).mono ?_;rintro e W1 ⟨rfl,hT'⟩;replace hres:=(hT'.2.keep _ (Array.getElem?_eq_some_iff.1 hres).1 (Nat.ne_of_gt hgw)).trans hres;replace hT:=hT.to hT';clear hT';clear mk1) | (have _t:=mk2;go_at_call 66;(try rw [hV0]);refine (Pa.iname_ok h2 hT.1).mono ?_;rintro e W1 ⟨rfl,hT'⟩;replace hres:=(hT'.2.keep _ (Array.getElem?_eq_some_iff.1 hres).1 (Nat.ne_of_gt hgw)).trans hres;replace hT:=hT.to hT';clear hT';have hC:=Pa.Fw.start hres (Mill.ba (Pa.tx ts (i+1)));have hgB:g < W1.heap.size+1:=Nat.lt_of_lt_of_le hgw (Nat.le_succ_of_le hT.2.size);replace hT:=hT.al (.cells #[.string (Mill.ba (Pa.tx ts (i+1))),.int .i64 0,.slice none 0 0,.slice none 0 0] 79);clear hres;clear mk2) | (have _t:=mk3;go_at_call 67;(try rw [hV0]);refine (Pa.needsM_ok [40] h3 hT.1).mono ?_;rintro e W1 ⟨rfl,hT'⟩;replace hC:=hC.fr hT'.2 hgw;replace hT:=hT.to hT';clear hT';clear mk3) | (have _t:=mk4;go_at_call 68;(try rw [hV0]);refine (Pa.takesM_any [41] hT.1).mono ?_;rintro e W1 ⟨rfl,hT'⟩;rw [h4] at hT' ⊢;replace hC:=hC.fr hT'.2 hgw;replace hT:Pa.Pt ts g a c E (((i+1)+1)+1) w W1:=hT.to hT';clear hT';clear mk4) | (have _t:=mk5;go_at_call 69;(try rw [hV0]);refine (HE5.out _ (hB.fr hT.2) hT.1).mono ?_;rintro e V ⟨va5,vc5,rfl,hE5,hT'⟩;obtain ⟨qs,hq,hS⟩:=hE5;replace hS:=hS.mono (Array.getElem?_eq_some_iff.1 hC.var).1;replace hC:=hC.fr hT'.2 hgw;replace hT:=hT.to hT';clear hT';have HQ:Hid (x5.1=qs.map Pa.pl):=hq;have HQ2:Hid (x5.1.length=qs.length):=(by rw [hq];simp:x5.1.length=qs.length);have HQL:Hid (qs.length≤90000):=(by have h1:=Pa.ipars_len2 _ _ _ _ h5;rw [hq] at h1;simp at h1;have h2:=hT.1.le;have h3:=hT.1.len;omega:qs.length≤90000);clear hq;obtain ⟨⟨z0,z1,z2,z3⟩,⟨y0,y1,y2,y3⟩,f0,f1⟩:=hC.cells;have hbw:=hC.bw;have hC':=hC.set 2 (.slice va5 x5.1.length vc5) 0 (.slice va5 x5.1.length vc5) (.slice none 0 0) rfl;have hT':=hT.setB (k:=2) (Nat.le_of_lt hbw) hgw (.slice va5 x5.1.length vc5);have hS':=hS.setC (o:=2) (Nat.lt_succ_self _) (.slice va5 x5.1.length vc5);replace hC:=hC';replace hT:=hT';replace hS:=hS';clear hC' hT' hS';clear mk5) | (have _t:=mk6;go_at_call 68;(try rw [hV0]);refine (Pa.takesM_any [45,62] hT.1).mono ?_;rintro e W1 ⟨rfl,hT'⟩;rw [h6] at hT' ⊢;replace hC:=hC.fr hT'.2 hgw;replace hS:=hS.fr hT'.2 hgB;replace hT:Pa.Pt ts g a c E x5.2 w W1:=hT.to hT';clear hT';clear mk6) | (have _t:=mk7;go_at_call 71;(try rw [hV0]);refine (HE7.out _ (hB.fr hT.2) hT.1).mono ?_;rintro e V ⟨rfl,hF'⟩;have hF:=hT.2.trans hF';unfold Pa.pan;clear mk7))
         exact ⟨rfl,rfl,hF⟩
        | ok x7 =>
         rw [Pa.bd_ok] at hr
         simp only [Option.some.injEq] at hr
         subst hr
         have mk1:True:=trivial
         have mk2:True:=trivial
         have mk3:True:=trivial
         have mk4:True:=trivial
         have mk5:True:=trivial
         have mk6:True:=trivial
         have mk7:True:=trivial
         go_enter Tryz.func32,Tryz.ntmps32
         go_wp2_with (first | (have _t:=mk1;go_at_call 65;(try rw [hV0]);refine (Pa.needsW_ok [102,110] h1 hT.1).mono ?_;rintro e W1 ⟨rfl,hT'⟩;replace hres:=(hT'.2.keep _ (Array.getElem?_eq_some_iff.1 hres).1 (Nat.ne_of_gt hgw)).trans hres;replace hT:=hT.to hT';clear hT';clear mk1) | (have _t:=mk2;go_at_call 66;(try rw [hV0]);refine (Pa.iname_ok h2 hT.1).mono ?_;rintro e W1 ⟨rfl,hT'⟩;replace hres:=(hT'.2.keep _ (Array.getElem?_eq_some_iff.1 hres).1 (Nat.ne_of_gt hgw)).trans hres;replace hT:=hT.to hT';clear hT';have hC:=Pa.Fw.start hres (Mill.ba (Pa.tx ts (i+1)));have hgB:g < W1.heap.size+1:=Nat.lt_of_lt_of_le hgw (Nat.le_succ_of_le hT.2.size);replace hT:=hT.al (.cells #[.string (Mill.ba (Pa.tx ts (i+1))),.int .i64 0,.slice none 0 0,.slice none 0 0] 79);clear hres;clear mk2) | (have _t:=mk3;go_at_call 67;(try rw [hV0]);refine (Pa.needsM_ok [40] h3 hT.1).mono ?_;rintro e W1 ⟨rfl,hT'⟩;replace hC:=hC.fr hT'.2 hgw;replace hT:=hT.to hT';clear hT';clear mk3) | (have _t:=mk4;go_at_call 68;(try rw [hV0]);refine (Pa.takesM_any [41] hT.1).mono ?_;rintro e W1 ⟨rfl,hT'⟩;rw [h4] at hT' ⊢;replace hC:=hC.fr hT'.2 hgw;replace hT:Pa.Pt ts g a c E (((i+1)+1)+1) w W1:=hT.to hT';clear hT';clear mk4) | (have _t:=mk5;go_at_call 69;(try rw [hV0]);refine (HE5.out _ (hB.fr hT.2) hT.1).mono ?_;rintro e V ⟨va5,vc5,rfl,hE5,hT'⟩;obtain ⟨qs,hq,hS⟩:=hE5;replace hS:=hS.mono (Array.getElem?_eq_some_iff.1 hC.var).1;replace hC:=hC.fr hT'.2 hgw;replace hT:=hT.to hT';clear hT';have HQ:Hid (x5.1=qs.map Pa.pl):=hq;have HQ2:Hid (x5.1.length=qs.length):=(by rw [hq];simp:x5.1.length=qs.length);have HQL:Hid (qs.length≤90000):=(by have h1:=Pa.ipars_len2 _ _ _ _ h5;rw [hq] at h1;simp at h1;have h2:=hT.1.le;have h3:=hT.1.len;omega:qs.length≤90000);clear hq;obtain ⟨⟨z0,z1,z2,z3⟩,⟨y0,y1,y2,y3⟩,f0,f1⟩:=hC.cells;have hbw:=hC.bw;have hC':=hC.set 2 (.slice va5 x5.1.length vc5) 0 (.slice va5 x5.1.length vc5) (.slice none 0 0) rfl;have hT':=hT.setB (k:=2) (Nat.le_of_lt hbw) hgw (.slice va5 x5.1.length vc5);have hS':=hS.setC (o:=2) (Nat.lt_succ_self _) (.slice va5 x5.1.length vc5);replace hC:=hC';replace hT:=hT';replace hS:=hS';clear hC' hT' hS';clear mk5) | (have _t:=mk6;go_at_call 68;(try rw [hV0]);refine (Pa.takesM_any [45,62] hT.1).mono ?_;rintro e W1 ⟨rfl,hT'⟩;rw [h6] at hT' ⊢;replace hC:=hC.fr hT'.2 hgw;replace hS:=hS.fr hT'.2 hgB;replace hT:Pa.Pt ts g a c E x5.2 w W1:=hT.to hT';clear hT';clear mk6) | (have _t:=mk7;go_at_call 71;(try rw [hV0]);refine (HE7.out _ (hB.fr hT.2) hT.1).mono ?_;rintro e V ⟨va7,vc7,rfl,hK7,hT'⟩;replace hK7:=hK7.mono (Array.getElem?_eq_some_iff.1 hC.var).1;replace hC:=hC.fr hT'.2 hgw;replace hS:=hS.fr hT'.2 hgB;replace hT:=hT.to hT';clear hT';obtain ⟨⟨z0,z1,z2,z3⟩,⟨y0,y1,y2,y3⟩,f0,f1⟩:=hC.cells;have hbw:=hC.bw;have hC':=hC.set 3 (.slice va7 x7.1.length vc7) 0 (.slice va5 x5.1.length vc5) (.slice va7 x7.1.length vc7) rfl;have hT':=hT.setB (k:=3) (Nat.le_of_lt hbw) hgw (.slice va7 x7.1.length vc7);have hK':=hK7.setC (o:=3) (Nat.lt_succ_self _) (.slice va7 x7.1.length vc7);have hS':=hS.setC (o:=3) (Nat.lt_succ_self _) (.slice va7 x7.1.length vc7);replace hS:=hS';clear hS';replace hC:=hC';replace hT:=hT';clear hC' hT';obtain ⟨⟨p0,p1,p2,p3⟩,⟨o0,o1,o2,o3⟩,e0,e1⟩:=hC.cells;clear mk7))
         obtain ⟨q0,q1,q2,q3⟩:=Pa.set4 (v0:=.string (Mill.ba (Pa.tx ts (i+1)))) (v1:=.int .i64 0) (v2:=.slice va5 x5.1.length vc5) (v3:=.slice va7 x7.1.length vc7) p0 p1 p2 p3
         refine bodyPost_ret (v:=.agg #[.string (Mill.ba (Pa.tx ts (i+1))),.int .i64 0,.slice va5 x5.1.length vc5,.slice va7 x7.1.length vc7]) (by simp [results,Tryz.results32,go_sem,q0,q1,q2,q3]) rfl ?_
         have hlk:x7.1.length≤100000:=Nat.le_trans (Pa.iblock_len h7) (Nat.le_trans hT.1.le (Nat.le_trans hT.1.len (by decide)))
         obtain ⟨r1,r2,r3⟩:=Pa.ret4 (v0:=.string (Mill.ba (Pa.tx ts (i+1)))) (v1:=.int .i64 0) (v2:=.slice va5 x5.1.length vc5) (v3:=.slice va7 x7.1.length vc7) hT hgw hS hK' (Nat.lt_succ_of_lt hbw)
         have hRF:=Pa.rb_fn (Pa.tx ts (i+1)) 0 r1 r2 HQL.out hlk
         rw [← HQ.out,← HQ2.out] at hRF
         exact ⟨⟨Mill.ba (Pa.tx ts (i+1)),0,va5,x5.1.length,vc5,va7,x7.1.length,vc7⟩,rfl,hRF,r3⟩
      | true =>
       simp only [h6,if_true] at hr
       by_cases h8:Pa.wty ts (x5.2+1)=0
       ·simp only [Pa.itype,h8,if_true,Pa.bd_err',Option.some.injEq] at hr
        subst hr
        have mk1:True:=trivial
        have mk2:True:=trivial
        have mk3:True:=trivial
        have mk4:True:=trivial
        have mk5:True:=trivial
        have mk6:True:=trivial
        have mk8:True:=trivial
        go_enter Tryz.func32,Tryz.ntmps32
        go_wp2_with (first | (have _t:=mk1;go_at_call 65;(try rw [hV0]);refine (Pa.needsW_ok [102,110] h1 hT.1).mono ?_;rintro e W1 ⟨rfl,hT'⟩;replace hres:=(hT'.2.keep _ (Array.getElem?_eq_some_iff.1 hres).1 (Nat.ne_of_gt hgw)).trans hres;replace hT:=hT.to hT';clear hT';clear mk1) | (have _t:=mk2;go_at_call 66;(try rw [hV0]);refine (Pa.iname_ok h2 hT.1).mono ?_;rintro e W1 ⟨rfl,hT'⟩;replace hres:=(hT'.2.keep _ (Array.getElem?_eq_some_iff.1 hres).1 (Nat.ne_of_gt hgw)).trans hres;replace hT:=hT.to hT';clear hT';have hC:=Pa.Fw.start hres (Mill.ba (Pa.tx ts (i+1)));have hgB:g < W1.heap.size+1:=Nat.lt_of_lt_of_le hgw (Nat.le_succ_of_le hT.2.size);replace hT:=hT.al (.cells #[.string (Mill.ba (Pa.tx ts (i+1))),.int .i64 0,.slice none 0 0,.slice none 0 0] 79);clear hres;clear mk2) | (have _t:=mk3;go_at_call 67;(try rw [hV0]);refine (Pa.needsM_ok [40] h3 hT.1).mono ?_;rintro e W1 ⟨rfl,hT'⟩;replace hC:=hC.fr hT'.2 hgw;replace hT:=hT.to hT';clear hT';clear mk3) | (have _t:=mk4;go_at_call 68;(try rw [hV0]);refine (Pa.takesM_any [41] hT.1).mono ?_;rintro e W1 ⟨rfl,hT'⟩;rw [h4] at hT' ⊢;replace hC:=hC.fr hT'.2 hgw;replace hT:Pa.Pt ts g a c E (((i+1)+1)+1) w W1:=hT.to hT';clear hT';clear mk4) | (have _t:=mk5;go_at_call 69;(try rw [hV0]);refine (HE5.out _ (hB.fr hT.2) hT.1).mono ?_;rintro e V ⟨va5,vc5,rfl,hE5,hT'⟩;obtain ⟨qs,hq,hS⟩:=hE5;replace hS:=hS.mono (Array.getElem?_eq_some_iff.1 hC.var).1;replace hC:=hC.fr hT'.2 hgw;replace hT:=hT.to hT';clear hT';have HQ:Hid (x5.1=qs.map Pa.pl):=hq;have HQ2:Hid (x5.1.length=qs.length):=(by rw [hq];simp:x5.1.length=qs.length);have HQL:Hid (qs.length≤90000):=(by have h1:=Pa.ipars_len2 _ _ _ _ h5;rw [hq] at h1;simp at h1;have h2:=hT.1.le;have h3:=hT.1.len;omega:qs.length≤90000);clear hq;obtain ⟨⟨z0,z1,z2,z3⟩,⟨y0,y1,y2,y3⟩,f0,f1⟩:=hC.cells;have hbw:=hC.bw;have hC':=hC.set 2 (.slice va5 x5.1.length vc5) 0 (.slice va5 x5.1.length vc5) (.slice none 0 0) rfl;have hT':=hT.setB (k:=2) (Nat.le_of_lt hbw) hgw (.slice va5 x5.1.length vc5);have hS':=hS.setC (o:=2) (Nat.lt_succ_self _) (.slice va5 x5.1.length vc5);replace hC:=hC';replace hT:=hT';replace hS:=hS';clear hC' hT' hS';clear mk5) | (have _t:=mk6;go_at_call 68;(try rw [hV0]);refine (Pa.takesM_any [45,62] hT.1).mono ?_;rintro e W1 ⟨rfl,hT'⟩;rw [h6] at hT' ⊢;replace hC:=hC.fr hT'.2 hgw;replace hS:=hS.fr hT'.2 hgB;replace hT:Pa.Pt ts g a c E (x5.2+1) w W1:=hT.to hT';clear hT';clear mk6) | (have _t:=mk8;go_at_call 70;(try rw [hV0]);refine (Pa.typeWord_no h8 (hB.fr hT.2) hT.1).mono ?_;rintro e W1 ⟨rfl,hT'⟩;have hF:=(hT.to hT').2;unfold Pa.pan;clear mk8))
        exact ⟨rfl,rfl,hF⟩
       simp only [Pa.itype,h8,if_false,Pa.bd_ok'] at hr
       cases h9:Pa.iblock ts n ((x5.2+1)+1) with
       | none=>rw [h9,Pa.bd_none] at hr;simp at hr
       | some q9 =>
        rw [h9] at hr
        have HE9:Hid (∀ W,Pa.Tb g W→Pa.P ts g a c E ((x5.2+1)+1) W→Calls Tryz.prog 71 #[.pointer (some ⟨g,0,none⟩)] W (Pa.AnsB ts g a c E q9 W)):=fun W hb hp=>Pa.bl_any hG n q9 h9 hb hp
        cases q9 with
        | error e1 =>
         rw [Pa.bd_err,Option.some.injEq] at hr
         subst hr
         have mk1:True:=trivial
         have mk2:True:=trivial
         have mk3:True:=trivial
         have mk4:True:=trivial
         have mk5:True:=trivial
         have mk6:True:=trivial
         have mk8:True:=trivial
         have mk9:True:=trivial
         go_enter Tryz.func32,Tryz.ntmps32
         go_wp2_with (first | (have _t:=mk1;go_at_call 65;(try rw [hV0]);refine (Pa.needsW_ok [102,110] h1 hT.1).mono ?_;rintro e W1 ⟨rfl,hT'⟩;replace hres:=(hT'.2.keep _ (Array.getElem?_eq_some_iff.1 hres).1 (Nat.ne_of_gt hgw)).trans hres;replace hT:=hT.to hT';clear hT';clear mk1) | (have _t:=mk2;go_at_call 66;(try rw [hV0]);refine (Pa.iname_ok h2 hT.1).mono ?_;rintro e W1 ⟨rfl,hT'⟩;replace hres:=(hT'.2.keep _ (Array.getElem?_eq_some_iff.1 hres).1 (Nat.ne_of_gt hgw)).trans hres;replace hT:=hT.to hT';clear hT';have hC:=Pa.Fw.start hres (Mill.ba (Pa.tx ts (i+1)));have hgB:g < W1.heap.size+1:=Nat.lt_of_lt_of_le hgw (Nat.le_succ_of_le hT.2.size);replace hT:=hT.al (.cells #[.string (Mill.ba (Pa.tx ts (i+1))),.int .i64 0,.slice none 0 0,.slice none 0 0] 79);clear hres;clear mk2) | (have _t:=mk3;go_at_call 67;(try rw [hV0]);refine (Pa.needsM_ok [40] h3 hT.1).mono ?_;rintro e W1 ⟨rfl,hT'⟩;replace hC:=hC.fr hT'.2 hgw;replace hT:=hT.to hT';clear hT';clear mk3) | (have _t:=mk4;go_at_call 68;(try rw [hV0]);refine (Pa.takesM_any [41] hT.1).mono ?_;rintro e W1 ⟨rfl,hT'⟩;rw [h4] at hT' ⊢;replace hC:=hC.fr hT'.2 hgw;replace hT:Pa.Pt ts g a c E (((i+1)+1)+1) w W1:=hT.to hT';clear hT';clear mk4) | (have _t:=mk5;go_at_call 69;(try rw [hV0]);refine (HE5.out _ (hB.fr hT.2) hT.1).mono ?_;rintro e V ⟨va5,vc5,rfl,hE5,hT'⟩;obtain ⟨qs,hq,hS⟩:=hE5;replace hS:=hS.mono (Array.getElem?_eq_some_iff.1 hC.var).1;replace hC:=hC.fr hT'.2 hgw;replace hT:=hT.to hT';clear hT';have HQ:Hid (x5.1=qs.map Pa.pl):=hq;have HQ2:Hid (x5.1.length=qs.length):=(by rw [hq];simp:x5.1.length=qs.length);have HQL:Hid (qs.length≤90000):=(by have h1:=Pa.ipars_len2 _ _ _ _ h5;rw [hq] at h1;simp at h1;have h2:=hT.1.le;have h3:=hT.1.len;omega:qs.length≤90000);clear hq;obtain ⟨⟨z0,z1,z2,z3⟩,⟨y0,y1,y2,y3⟩,f0,f1⟩:=hC.cells;have hbw:=hC.bw;have hC':=hC.set 2 (.slice va5 x5.1.length vc5) 0 (.slice va5 x5.1.length vc5) (.slice none 0 0) rfl;have hT':=hT.setB (k:=2) (Nat.le_of_lt hbw) hgw (.slice va5 x5.1.length vc5);have hS':=hS.setC (o:=2) (Nat.lt_succ_self _) (.slice va5 x5.1.length vc5);replace hC:=hC';replace hT:=hT';replace hS:=hS';clear hC' hT' hS';clear mk5) | (have _t:=mk6;go_at_call 68;(try rw [hV0]);refine (Pa.takesM_any [45,62] hT.1).mono ?_;rintro e W1 ⟨rfl,hT'⟩;rw [h6] at hT' ⊢;replace hC:=hC.fr hT'.2 hgw;replace hS:=hS.fr hT'.2 hgB;replace hT:Pa.Pt ts g a c E (x5.2+1) w W1:=hT.to hT';clear hT';clear mk6) | (have _t:=mk8;go_at_call 70;(try rw [hV0]);refine (Pa.typeWord_ok h8 (hB.fr hT.2) hT.1).mono ?_;rintro e W1 ⟨rfl,hT'⟩;replace hC:=hC.fr hT'.2 hgw;replace hS:=hS.fr hT'.2 hgB;replace hT:=hT.to hT';clear hT';obtain ⟨⟨z0,z1,z2,z3⟩,⟨y0,y1,y2,y3⟩,f0,f1⟩:=hC.cells;have hbw:=hC.bw;have hC':=hC.set 1 (.int .i64 (Pa.wty ts (x5.2+1):Int)) (Pa.wty ts (x5.2+1):Int) (.slice va5 x5.1.length vc5) (.slice none 0 0) rfl;have hT':=hT.setB (k:=1) (Nat.le_of_lt hbw) hgw (.int .i64 (Pa.wty ts (x5.2+1):Int));have hS':=hS.setC (o:=1) (Nat.lt_succ_self _) (.int .i64 (Pa.wty ts (x5.2+1):Int));replace hS:=hS';clear hS';replace hC:=hC';replace hT:=hT';clear hC' hT';clear mk8) | (have _t:=mk9;go_at_call 71;(try rw [hV0]);refine (HE9.out _ (hB.fr hT.2) hT.1).mono ?_;rintro e V ⟨rfl,hF'⟩;have hF:=hT.2.trans hF';unfold Pa.pan;clear mk9))
         exact ⟨rfl,rfl,hF⟩
        | ok x9 =>
         rw [Pa.bd_ok] at hr
         simp only [Option.some.injEq] at hr
         subst hr
         have mk1:True:=trivial
         have mk2:True:=trivial
         have mk3:True:=trivial
         have mk4:True:=trivial
         have mk5:True:=trivial
         have mk6:True:=trivial
         have mk8:True:=trivial
         have mk9:True:=trivial
         go_enter Tryz.func32,Tryz.ntmps32
         go_wp2_with (first | (have _t:=mk1;go_at_call 65;(try rw [hV0]);refine (Pa.needsW_ok [102,110] h1 hT.1).mono ?_;rintro e W1 ⟨rfl,hT'⟩;replace hres:=(hT'.2.keep _ (Array.getElem?_eq_some_iff.1 hres).1 (Nat.ne_of_gt hgw)).trans hres;replace hT:=hT.to hT';clear hT';clear mk1) | (have _t:=mk2;go_at_call 66;(try rw [hV0]);refine (Pa.iname_ok h2 hT.1).mono ?_;rintro e W1 ⟨rfl,hT'⟩;replace hres:=(hT'.2.keep _ (Array.getElem?_eq_some_iff.1 hres).1 (Nat.ne_of_gt hgw)).trans hres;replace hT:=hT.to hT';clear hT';have hC:=Pa.Fw.start hres (Mill.ba (Pa.tx ts (i+1)));have hgB:g < W1.heap.size+1:=Nat.lt_of_lt_of_le hgw (Nat.le_succ_of_le hT.2.size);replace hT:=hT.al (.cells #[.string (Mill.ba (Pa.tx ts (i+1))),.int .i64 0,.slice none 0 0,.slice none 0 0] 79);clear hres;clear mk2) | (have _t:=mk3;go_at_call 67;(try rw [hV0]);refine (Pa.needsM_ok [40] h3 hT.1).mono ?_;rintro e W1 ⟨rfl,hT'⟩;replace hC:=hC.fr hT'.2 hgw;replace hT:=hT.to hT';clear hT';clear mk3) | (have _t:=mk4;go_at_call 68;(try rw [hV0]);refine (Pa.takesM_any [41] hT.1).mono ?_;rintro e W1 ⟨rfl,hT'⟩;rw [h4] at hT' ⊢;replace hC:=hC.fr hT'.2 hgw;replace hT:Pa.Pt ts g a c E (((i+1)+1)+1) w W1:=hT.to hT';clear hT';clear mk4) | (have _t:=mk5;go_at_call 69;(try rw [hV0]);refine (HE5.out _ (hB.fr hT.2) hT.1).mono ?_;rintro e V ⟨va5,vc5,rfl,hE5,hT'⟩;obtain ⟨qs,hq,hS⟩:=hE5;replace hS:=hS.mono (Array.getElem?_eq_some_iff.1 hC.var).1;replace hC:=hC.fr hT'.2 hgw;replace hT:=hT.to hT';clear hT';have HQ:Hid (x5.1=qs.map Pa.pl):=hq;have HQ2:Hid (x5.1.length=qs.length):=(by rw [hq];simp:x5.1.length=qs.length);have HQL:Hid (qs.length≤90000):=(by have h1:=Pa.ipars_len2 _ _ _ _ h5;rw [hq] at h1;simp at h1;have h2:=hT.1.le;have h3:=hT.1.len;omega:qs.length≤90000);clear hq;obtain ⟨⟨z0,z1,z2,z3⟩,⟨y0,y1,y2,y3⟩,f0,f1⟩:=hC.cells;have hbw:=hC.bw;have hC':=hC.set 2 (.slice va5 x5.1.length vc5) 0 (.slice va5 x5.1.length vc5) (.slice none 0 0) rfl;have hT':=hT.setB (k:=2) (Nat.le_of_lt hbw) hgw (.slice va5 x5.1.length vc5);have hS':=hS.setC (o:=2) (Nat.lt_succ_self _) (.slice va5 x5.1.length vc5);replace hC:=hC';replace hT:=hT';replace hS:=hS';clear hC' hT' hS';clear mk5) | (have _t:=mk6;go_at_call 68;(try rw [hV0]);refine (Pa.takesM_any [45,62] hT.1).mono ?_;rintro e W1 ⟨rfl,hT'⟩;rw [h6] at hT' ⊢;replace hC:=hC.fr hT'.2 hgw;replace hS:=hS.fr hT'.2 hgB;replace hT:Pa.Pt ts g a c E (x5.2+1) w W1:=hT.to hT';clear hT';clear mk6) | (have _t:=mk8;go_at_call 70;(try rw [hV0]);refine (Pa.typeWord_ok h8 (hB.fr hT.2) hT.1).mono ?_;rintro e W1 ⟨rfl,hT'⟩;replace hC:=hC.fr hT'.2 hgw;replace hS:=hS.fr hT'.2 hgB;replace hT:=hT.to hT';clear hT';obtain ⟨⟨z0,z1,z2,z3⟩,⟨y0,y1,y2,y3⟩,f0,f1⟩:=hC.cells;have hbw:=hC.bw;have hC':=hC.set 1 (.int .i64 (Pa.wty ts (x5.2+1):Int)) (Pa.wty ts (x5.2+1):Int) (.slice va5 x5.1.length vc5) (.slice none 0 0) rfl;have hT':=hT.setB (k:=1) (Nat.le_of_lt hbw) hgw (.int .i64 (Pa.wty ts (x5.2+1):Int));have hS':=hS.setC (o:=1) (Nat.lt_succ_self _) (.int .i64 (Pa.wty ts (x5.2+1):Int));replace hS:=hS';clear hS';replace hC:=hC';replace hT:=hT';clear hC' hT';clear mk8) | (have _t:=mk9;go_at_call 71;(try rw [hV0]);refine (HE9.out _ (hB.fr hT.2) hT.1).mono ?_;rintro e V ⟨va9,vc9,rfl,hK9,hT'⟩;replace hK9:=hK9.mono (Array.getElem?_eq_some_iff.1 hC.var).1;replace hC:=hC.fr hT'.2 hgw;replace hS:=hS.fr hT'.2 hgB;replace hT:=hT.to hT';clear hT';obtain ⟨⟨z0,z1,z2,z3⟩,⟨y0,y1,y2,y3⟩,f0,f1⟩:=hC.cells;have hbw:=hC.bw;have hC':=hC.set 3 (.slice va9 x9.1.length vc9) (Pa.wty ts (x5.2+1):Int) (.slice va5 x5.1.length vc5) (.slice va9 x9.1.length vc9) rfl;have hT':=hT.setB (k:=3) (Nat.le_of_lt hbw) hgw (.slice va9 x9.1.length vc9);have hK':=hK9.setC (o:=3) (Nat.lt_succ_self _) (.slice va9 x9.1.length vc9);have hS':=hS.setC (o:=3) (Nat.lt_succ_self _) (.slice va9 x9.1.length vc9);replace hS:=hS';clear hS';replace hC:=hC';replace hT:=hT';clear hC' hT';obtain ⟨⟨p0,p1,p2,p3⟩,⟨o0,o1,o2,o3⟩,e0,e1⟩:=hC.cells;clear mk9))
         obtain ⟨q0,q1,q2,q3⟩:=Pa.set4 (v0:=.string (Mill.ba (Pa.tx ts (i+1)))) (v1:=.int .i64 (Pa.wty ts (x5.2+1):Int)) (v2:=.slice va5 x5.1.length vc5) (v3:=.slice va9 x9.1.length vc9) p0 p1 p2 p3
         refine bodyPost_ret (v:=.agg #[.string (Mill.ba (Pa.tx ts (i+1))),.int .i64 (Pa.wty ts (x5.2+1):Int),.slice va5 x5.1.length vc5,.slice va9 x9.1.length vc9]) (by simp [results,Tryz.results32,go_sem,q0,q1,q2,q3]) rfl ?_
         have hlk:x9.1.length≤100000:=Nat.le_trans (Pa.iblock_len h9) (Nat.le_trans hT.1.le (Nat.le_trans hT.1.len (by decide)))
         obtain ⟨r1,r2,r3⟩:=Pa.ret4 (v0:=.string (Mill.ba (Pa.tx ts (i+1)))) (v1:=.int .i64 (Pa.wty ts (x5.2+1):Int)) (v2:=.slice va5 x5.1.length vc5) (v3:=.slice va9 x9.1.length vc9) hT hgw hS hK' (Nat.lt_succ_of_lt hbw)
         have hRF:=Pa.rb_fn (Pa.tx ts (i+1)) (Pa.wty ts (x5.2+1):Int) r1 r2 HQL.out hlk
         rw [← HQ.out,← HQ2.out] at hRF
         exact ⟨⟨Mill.ba (Pa.tx ts (i+1)),(Pa.wty ts (x5.2+1):Int),va5,x5.1.length,vc5,va9,x9.1.length,vc9⟩,rfl,hRF,r3⟩
   | true =>
    simp only [h4,if_true] at hr
    simp only [Pa.bd_ok'] at hr
    cases h10:Pa.st ts 5 [45,62] ((((i+1)+1)+1)+1) with
    | false =>
     simp only [h10,Bool.false_eq_true,if_false] at hr
     simp only [Pa.bd_ok'] at hr
     cases h11:Pa.iblock ts n ((((i+1)+1)+1)+1) with
     | none=>rw [h11,Pa.bd_none] at hr;simp at hr
     | some q11 =>
      rw [h11] at hr
      have HE11:Hid (∀ W,Pa.Tb g W→Pa.P ts g a c E ((((i+1)+1)+1)+1) W→Calls Tryz.prog 71 #[.pointer (some ⟨g,0,none⟩)] W (Pa.AnsB ts g a c E q11 W)):=fun W hb hp=>Pa.bl_any hG n q11 h11 hb hp
      cases q11 with
      | error e1 =>
       rw [Pa.bd_err,Option.some.injEq] at hr
       subst hr
       have mk1:True:=trivial
       have mk2:True:=trivial
       have mk3:True:=trivial
       have mk4:True:=trivial
       have mk10:True:=trivial
       have mk11:True:=trivial
       go_enter Tryz.func32,Tryz.ntmps32
       go_wp2_with (first | (have _t:=mk1;go_at_call 65;(try rw [hV0]);refine (Pa.needsW_ok [102,110] h1 hT.1).mono ?_;rintro e W1 ⟨rfl,hT'⟩;replace hres:=(hT'.2.keep _ (Array.getElem?_eq_some_iff.1 hres).1 (Nat.ne_of_gt hgw)).trans hres;replace hT:=hT.to hT';clear hT';clear mk1) | (have _t:=mk2;go_at_call 66;(try rw [hV0]);refine (Pa.iname_ok h2 hT.1).mono ?_;rintro e W1 ⟨rfl,hT'⟩;replace hres:=(hT'.2.keep _ (Array.getElem?_eq_some_iff.1 hres).1 (Nat.ne_of_gt hgw)).trans hres;replace hT:=hT.to hT';clear hT';have hC:=Pa.Fw.start hres (Mill.ba (Pa.tx ts (i+1)));have hgB:g < W1.heap.size+1:=Nat.lt_of_lt_of_le hgw (Nat.le_succ_of_le hT.2.size);replace hT:=hT.al (.cells #[.string (Mill.ba (Pa.tx ts (i+1))),.int .i64 0,.slice none 0 0,.slice none 0 0] 79);clear hres;clear mk2) | (have _t:=mk3;go_at_call 67;(try rw [hV0]);refine (Pa.needsM_ok [40] h3 hT.1).mono ?_;rintro e W1 ⟨rfl,hT'⟩;replace hC:=hC.fr hT'.2 hgw;replace hT:=hT.to hT';clear hT';clear mk3) | (have _t:=mk4;go_at_call 68;(try rw [hV0]);refine (Pa.takesM_any [41] hT.1).mono ?_;rintro e W1 ⟨rfl,hT'⟩;rw [h4] at hT' ⊢;replace hC:=hC.fr hT'.2 hgw;replace hT:Pa.Pt ts g a c E ((((i+1)+1)+1)+1) w W1:=hT.to hT';clear hT';clear mk4) | (have _t:=mk10;go_at_call 68;(try rw [hV0]);refine (Pa.takesM_any [45,62] hT.1).mono ?_;rintro e W1 ⟨rfl,hT'⟩;rw [h10] at hT' ⊢;replace hC:=hC.fr hT'.2 hgw;replace hT:Pa.Pt ts g a c E ((((i+1)+1)+1)+1) w W1:=hT.to hT';clear hT';clear mk10) | (have _t:=mk11;go_at_call 71;(try rw [hV0]);refine (HE11.out _ (hB.fr hT.2) hT.1).mono ?_;rintro e V ⟨rfl,hF'⟩;have hF:=hT.2.trans hF';unfold Pa.pan;clear mk11))
       exact ⟨rfl,rfl,hF⟩
      | ok x11 =>
       rw [Pa.bd_ok] at hr
       simp only [Option.some.injEq] at hr
       subst hr
       have mk1:True:=trivial
       have mk2:True:=trivial
       have mk3:True:=trivial
       have mk4:True:=trivial
       have mk10:True:=trivial
       have mk11:True:=trivial
       go_enter Tryz.func32,Tryz.ntmps32
       go_wp2_with (first | (have _t:=mk1;go_at_call 65;(try rw [hV0]);refine (Pa.needsW_ok [102,110] h1 hT.1).mono ?_;rintro e W1 ⟨rfl,hT'⟩;replace hres:=(hT'.2.keep _ (Array.getElem?_eq_some_iff.1 hres).1 (Nat.ne_of_gt hgw)).trans hres;replace hT:=hT.to hT';clear hT';clear mk1) | (have _t:=mk2;go_at_call 66;(try rw [hV0]);refine (Pa.iname_ok h2 hT.1).mono ?_;rintro e W1 ⟨rfl,hT'⟩;replace hres:=(hT'.2.keep _ (Array.getElem?_eq_some_iff.1 hres).1 (Nat.ne_of_gt hgw)).trans hres;replace hT:=hT.to hT';clear hT';have hC:=Pa.Fw.start hres (Mill.ba (Pa.tx ts (i+1)));have hgB:g < W1.heap.size+1:=Nat.lt_of_lt_of_le hgw (Nat.le_succ_of_le hT.2.size);replace hT:=hT.al (.cells #[.string (Mill.ba (Pa.tx ts (i+1))),.int .i64 0,.slice none 0 0,.slice none 0 0] 79);clear hres;clear mk2) | (have _t:=mk3;go_at_call 67;(try rw [hV0]);refine (Pa.needsM_ok [40] h3 hT.1).mono ?_;rintro e W1 ⟨rfl,hT'⟩;replace hC:=hC.fr hT'.2 hgw;replace hT:=hT.to hT';clear hT';clear mk3) | (have _t:=mk4;go_at_call 68;(try rw [hV0]);refine (Pa.takesM_any [41] hT.1).mono ?_;rintro e W1 ⟨rfl,hT'⟩;rw [h4] at hT' ⊢;replace hC:=hC.fr hT'.2 hgw;replace hT:Pa.Pt ts g a c E ((((i+1)+1)+1)+1) w W1:=hT.to hT';clear hT';clear mk4) | (have _t:=mk10;go_at_call 68;(try rw [hV0]);refine (Pa.takesM_any [45,62] hT.1).mono ?_;rintro e W1 ⟨rfl,hT'⟩;rw [h10] at hT' ⊢;replace hC:=hC.fr hT'.2 hgw;replace hT:Pa.Pt ts g a c E ((((i+1)+1)+1)+1) w W1:=hT.to hT';clear hT';clear mk10) | (have _t:=mk11;go_at_call 71;(try rw [hV0]);refine (HE11.out _ (hB.fr hT.2) hT.1).mono ?_;rintro e V ⟨va11,vc11,rfl,hK11,hT'⟩;replace hK11:=hK11.mono (Array.getElem?_eq_some_iff.1 hC.var).1;replace hC:=hC.fr hT'.2 hgw;replace hT:=hT.to hT';clear hT';obtain ⟨⟨z0,z1,z2,z3⟩,⟨y0,y1,y2,y3⟩,f0,f1⟩:=hC.cells;have hbw:=hC.bw;have hC':=hC.set 3 (.slice va11 x11.1.length vc11) 0 (.slice none 0 0) (.slice va11 x11.1.length vc11) rfl;have hT':=hT.setB (k:=3) (Nat.le_of_lt hbw) hgw (.slice va11 x11.1.length vc11);have hK':=hK11.setC (o:=3) (Nat.lt_succ_self _) (.slice va11 x11.1.length vc11);replace hC:=hC';replace hT:=hT';clear hC' hT';obtain ⟨⟨p0,p1,p2,p3⟩,⟨o0,o1,o2,o3⟩,e0,e1⟩:=hC.cells;clear mk11))
       obtain ⟨q0,q1,q2,q3⟩:=Pa.set4 (v0:=.string (Mill.ba (Pa.tx ts (i+1)))) (v1:=.int .i64 0) (v2:=.slice none 0 0) (v3:=.slice va11 x11.1.length vc11) p0 p1 p2 p3
       refine bodyPost_ret (v:=.agg #[.string (Mill.ba (Pa.tx ts (i+1))),.int .i64 0,.slice none 0 0,.slice va11 x11.1.length vc11]) (by simp [results,Tryz.results32,go_sem,q0,q1,q2,q3]) rfl ?_
       have hlk:x11.1.length≤100000:=Nat.le_trans (Pa.iblock_len h11) (Nat.le_trans hT.1.le (Nat.le_trans hT.1.len (by decide)))
       obtain ⟨r1,r2,r3⟩:=Pa.ret4 (v0:=.string (Mill.ba (Pa.tx ts (i+1)))) (v1:=.int .i64 0) (v2:=.slice none 0 0) (v3:=.slice va11 x11.1.length vc11) hT hgw (Pa.Pr.nil _ _) hK' (Nat.lt_succ_of_lt hbw)
       have hRF:=Pa.rb_fn (Pa.tx ts (i+1)) 0 r1 r2 (by simp) hlk
       exact ⟨⟨Mill.ba (Pa.tx ts (i+1)),0,none,0,0,va11,x11.1.length,vc11⟩,rfl,hRF,r3⟩
    | true =>
     simp only [h10,if_true] at hr
     by_cases h12:Pa.wty ts (((((i+1)+1)+1)+1)+1)=0
     ·simp only [Pa.itype,h12,if_true,Pa.bd_err',Option.some.injEq] at hr
      subst hr
      have mk1:True:=trivial
      have mk2:True:=trivial
      have mk3:True:=trivial
      have mk4:True:=trivial
      have mk10:True:=trivial
      have mk12:True:=trivial
      go_enter Tryz.func32,Tryz.ntmps32
      go_wp2_with (first | (have _t:=mk1;go_at_call 65;(try rw [hV0]);refine (Pa.needsW_ok [102,110] h1 hT.1).mono ?_;rintro e W1 ⟨rfl,hT'⟩;replace hres:=(hT'.2.keep _ (Array.getElem?_eq_some_iff.1 hres).1 (Nat.ne_of_gt hgw)).trans hres;replace hT:=hT.to hT';clear hT';clear mk1) | (have _t:=mk2;go_at_call 66;(try rw [hV0]);refine (Pa.iname_ok h2 hT.1).mono ?_;rintro e W1 ⟨rfl,hT'⟩;replace hres:=(hT'.2.keep _ (Array.getElem?_eq_some_iff.1 hres).1 (Nat.ne_of_gt hgw)).trans hres;replace hT:=hT.to hT';clear hT';have hC:=Pa.Fw.start hres (Mill.ba (Pa.tx ts (i+1)));have hgB:g < W1.heap.size+1:=Nat.lt_of_lt_of_le hgw (Nat.le_succ_of_le hT.2.size);replace hT:=hT.al (.cells #[.string (Mill.ba (Pa.tx ts (i+1))),.int .i64 0,.slice none 0 0,.slice none 0 0] 79);clear hres;clear mk2) | (have _t:=mk3;go_at_call 67;(try rw [hV0]);refine (Pa.needsM_ok [40] h3 hT.1).mono ?_;rintro e W1 ⟨rfl,hT'⟩;replace hC:=hC.fr hT'.2 hgw;replace hT:=hT.to hT';clear hT';clear mk3) | (have _t:=mk4;go_at_call 68;(try rw [hV0]);refine (Pa.takesM_any [41] hT.1).mono ?_;rintro e W1 ⟨rfl,hT'⟩;rw [h4] at hT' ⊢;replace hC:=hC.fr hT'.2 hgw;replace hT:Pa.Pt ts g a c E ((((i+1)+1)+1)+1) w W1:=hT.to hT';clear hT';clear mk4) | (have _t:=mk10;go_at_call 68;(try rw [hV0]);refine (Pa.takesM_any [45,62] hT.1).mono ?_;rintro e W1 ⟨rfl,hT'⟩;rw [h10] at hT' ⊢;replace hC:=hC.fr hT'.2 hgw;replace hT:Pa.Pt ts g a c E (((((i+1)+1)+1)+1)+1) w W1:=hT.to hT';clear hT';clear mk10) | (have _t:=mk12;go_at_call 70;(try rw [hV0]);refine (Pa.typeWord_no h12 (hB.fr hT.2) hT.1).mono ?_;rintro e W1 ⟨rfl,hT'⟩;have hF:=(hT.to hT').2;unfold Pa.pan;clear mk12))
      exact ⟨rfl,rfl,hF⟩
     simp only [Pa.itype,h12,if_false,Pa.bd_ok'] at hr
     cases h13:Pa.iblock ts n ((((((i+1)+1)+1)+1)+1)+1) with
     | none=>rw [h13,Pa.bd_none] at hr;simp at hr
     | some q13 =>
      rw [h13] at hr
      have HE13:Hid (∀ W,Pa.Tb g W→Pa.P ts g a c E ((((((i+1)+1)+1)+1)+1)+1) W→Calls Tryz.prog 71 #[.pointer (some ⟨g,0,none⟩)] W (Pa.AnsB ts g a c E q13 W)):=fun W hb hp=>Pa.bl_any hG n q13 h13 hb hp
      cases q13 with
      | error e1 =>
       rw [Pa.bd_err,Option.some.injEq] at hr
       subst hr
       have mk1:True:=trivial
       have mk2:True:=trivial
       have mk3:True:=trivial
       have mk4:True:=trivial
       have mk10:True:=trivial
       have mk12:True:=trivial
       have mk13:True:=trivial
       go_enter Tryz.func32,Tryz.ntmps32
       go_wp2_with (first | (have _t:=mk1;go_at_call 65;(try rw [hV0]);refine (Pa.needsW_ok [102,110] h1 hT.1).mono ?_;rintro e W1 ⟨rfl,hT'⟩;replace hres:=(hT'.2.keep _ (Array.getElem?_eq_some_iff.1 hres).1 (Nat.ne_of_gt hgw)).trans hres;replace hT:=hT.to hT';clear hT';clear mk1) | (have _t:=mk2;go_at_call 66;(try rw [hV0]);refine (Pa.iname_ok h2 hT.1).mono ?_;rintro e W1 ⟨rfl,hT'⟩;replace hres:=(hT'.2.keep _ (Array.getElem?_eq_some_iff.1 hres).1 (Nat.ne_of_gt hgw)).trans hres;replace hT:=hT.to hT';clear hT';have hC:=Pa.Fw.start hres (Mill.ba (Pa.tx ts (i+1)));have hgB:g < W1.heap.size+1:=Nat.lt_of_lt_of_le hgw (Nat.le_succ_of_le hT.2.size);replace hT:=hT.al (.cells #[.string (Mill.ba (Pa.tx ts (i+1))),.int .i64 0,.slice none 0 0,.slice none 0 0] 79);clear hres;clear mk2) | (have _t:=mk3;go_at_call 67;(try rw [hV0]);refine (Pa.needsM_ok [40] h3 hT.1).mono ?_;rintro e W1 ⟨rfl,hT'⟩;replace hC:=hC.fr hT'.2 hgw;replace hT:=hT.to hT';clear hT';clear mk3) | (have _t:=mk4;go_at_call 68;(try rw [hV0]);refine (Pa.takesM_any [41] hT.1).mono ?_;rintro e W1 ⟨rfl,hT'⟩;rw [h4] at hT' ⊢;replace hC:=hC.fr hT'.2 hgw;replace hT:Pa.Pt ts g a c E ((((i+1)+1)+1)+1) w W1:=hT.to hT';clear hT';clear mk4) | (have _t:=mk10;go_at_call 68;(try rw [hV0]);refine (Pa.takesM_any [45,62] hT.1).mono ?_;rintro e W1 ⟨rfl,hT'⟩;rw [h10] at hT' ⊢;replace hC:=hC.fr hT'.2 hgw;replace hT:Pa.Pt ts g a c E (((((i+1)+1)+1)+1)+1) w W1:=hT.to hT';clear hT';clear mk10) | (have _t:=mk12;go_at_call 70;(try rw [hV0]);refine (Pa.typeWord_ok h12 (hB.fr hT.2) hT.1).mono ?_;rintro e W1 ⟨rfl,hT'⟩;replace hC:=hC.fr hT'.2 hgw;replace hT:=hT.to hT';clear hT';obtain ⟨⟨z0,z1,z2,z3⟩,⟨y0,y1,y2,y3⟩,f0,f1⟩:=hC.cells;have hbw:=hC.bw;have hC':=hC.set 1 (.int .i64 (Pa.wty ts (((((i+1)+1)+1)+1)+1):Int)) (Pa.wty ts (((((i+1)+1)+1)+1)+1):Int) (.slice none 0 0) (.slice none 0 0) rfl;have hT':=hT.setB (k:=1) (Nat.le_of_lt hbw) hgw (.int .i64 (Pa.wty ts (((((i+1)+1)+1)+1)+1):Int));replace hC:=hC';replace hT:=hT';clear hC' hT';clear mk12) | (have _t:=mk13;go_at_call 71;(try rw [hV0]);refine (HE13.out _ (hB.fr hT.2) hT.1).mono ?_;rintro e V ⟨rfl,hF'⟩;have hF:=hT.2.trans hF';unfold Pa.pan;clear mk13))
       exact ⟨rfl,rfl,hF⟩
      | ok x13 =>
       rw [Pa.bd_ok] at hr
       simp only [Option.some.injEq] at hr
       subst hr
       have mk1:True:=trivial
       have mk2:True:=trivial
       have mk3:True:=trivial
       have mk4:True:=trivial
       have mk10:True:=trivial
       have mk12:True:=trivial
       have mk13:True:=trivial
       go_enter Tryz.func32,Tryz.ntmps32
       go_wp2_with (first | (have _t:=mk1;go_at_call 65;(try rw [hV0]);refine (Pa.needsW_ok [102,110] h1 hT.1).mono ?_;rintro e W1 ⟨rfl,hT'⟩;replace hres:=(hT'.2.keep _ (Array.getElem?_eq_some_iff.1 hres).1 (Nat.ne_of_gt hgw)).trans hres;replace hT:=hT.to hT';clear hT';clear mk1) | (have _t:=mk2;go_at_call 66;(try rw [hV0]);refine (Pa.iname_ok h2 hT.1).mono ?_;rintro e W1 ⟨rfl,hT'⟩;replace hres:=(hT'.2.keep _ (Array.getElem?_eq_some_iff.1 hres).1 (Nat.ne_of_gt hgw)).trans hres;replace hT:=hT.to hT';clear hT';have hC:=Pa.Fw.start hres (Mill.ba (Pa.tx ts (i+1)));have hgB:g < W1.heap.size+1:=Nat.lt_of_lt_of_le hgw (Nat.le_succ_of_le hT.2.size);replace hT:=hT.al (.cells #[.string (Mill.ba (Pa.tx ts (i+1))),.int .i64 0,.slice none 0 0,.slice none 0 0] 79);clear hres;clear mk2) | (have _t:=mk3;go_at_call 67;(try rw [hV0]);refine (Pa.needsM_ok [40] h3 hT.1).mono ?_;rintro e W1 ⟨rfl,hT'⟩;replace hC:=hC.fr hT'.2 hgw;replace hT:=hT.to hT';clear hT';clear mk3) | (have _t:=mk4;go_at_call 68;(try rw [hV0]);refine (Pa.takesM_any [41] hT.1).mono ?_;rintro e W1 ⟨rfl,hT'⟩;rw [h4] at hT' ⊢;replace hC:=hC.fr hT'.2 hgw;replace hT:Pa.Pt ts g a c E ((((i+1)+1)+1)+1) w W1:=hT.to hT';clear hT';clear mk4) | (have _t:=mk10;go_at_call 68;(try rw [hV0]);refine (Pa.takesM_any [45,62] hT.1).mono ?_;rintro e W1 ⟨rfl,hT'⟩;rw [h10] at hT' ⊢;replace hC:=hC.fr hT'.2 hgw;replace hT:Pa.Pt ts g a c E (((((i+1)+1)+1)+1)+1) w W1:=hT.to hT';clear hT';clear mk10) | (have _t:=mk12;go_at_call 70;(try rw [hV0]);refine (Pa.typeWord_ok h12 (hB.fr hT.2) hT.1).mono ?_;rintro e W1 ⟨rfl,hT'⟩;replace hC:=hC.fr hT'.2 hgw;replace hT:=hT.to hT';clear hT';obtain ⟨⟨z0,z1,z2,z3⟩,⟨y0,y1,y2,y3⟩,f0,f1⟩:=hC.cells;have hbw:=hC.bw;have hC':=hC.set 1 (.int .i64 (Pa.wty ts (((((i+1)+1)+1)+1)+1):Int)) (Pa.wty ts (((((i+1)+1)+1)+1)+1):Int) (.slice none 0 0) (.slice none 0 0) rfl;have hT':=hT.setB (k:=1) (Nat.le_of_lt hbw) hgw (.int .i64 (Pa.wty ts (((((i+1)+1)+1)+1)+1):Int));replace hC:=hC';replace hT:=hT';clear hC' hT';clear mk12) | (have _t:=mk13;go_at_call 71;(try rw [hV0]);refine (HE13.out _ (hB.fr hT.2) hT.1).mono ?_;rintro e V ⟨va13,vc13,rfl,hK13,hT'⟩;replace hK13:=hK13.mono (Array.getElem?_eq_some_iff.1 hC.var).1;replace hC:=hC.fr hT'.2 hgw;replace hT:=hT.to hT';clear hT';obtain ⟨⟨z0,z1,z2,z3⟩,⟨y0,y1,y2,y3⟩,f0,f1⟩:=hC.cells;have hbw:=hC.bw;have hC':=hC.set 3 (.slice va13 x13.1.length vc13) (Pa.wty ts (((((i+1)+1)+1)+1)+1):Int) (.slice none 0 0) (.slice va13 x13.1.length vc13) rfl;have hT':=hT.setB (k:=3) (Nat.le_of_lt hbw) hgw (.slice va13 x13.1.length vc13);have hK':=hK13.setC (o:=3) (Nat.lt_succ_self _) (.slice va13 x13.1.length vc13);replace hC:=hC';replace hT:=hT';clear hC' hT';obtain ⟨⟨p0,p1,p2,p3⟩,⟨o0,o1,o2,o3⟩,e0,e1⟩:=hC.cells;clear mk13))
       obtain ⟨q0,q1,q2,q3⟩:=Pa.set4 (v0:=.string (Mill.ba (Pa.tx ts (i+1)))) (v1:=.int .i64 (Pa.wty ts (((((i+1)+1)+1)+1)+1):Int)) (v2:=.slice none 0 0) (v3:=.slice va13 x13.1.length vc13) p0 p1 p2 p3
       refine bodyPost_ret (v:=.agg #[.string (Mill.ba (Pa.tx ts (i+1))),.int .i64 (Pa.wty ts (((((i+1)+1)+1)+1)+1):Int),.slice none 0 0,.slice va13 x13.1.length vc13]) (by simp [results,Tryz.results32,go_sem,q0,q1,q2,q3]) rfl ?_
       have hlk:x13.1.length≤100000:=Nat.le_trans (Pa.iblock_len h13) (Nat.le_trans hT.1.le (Nat.le_trans hT.1.len (by decide)))
       obtain ⟨r1,r2,r3⟩:=Pa.ret4 (v0:=.string (Mill.ba (Pa.tx ts (i+1)))) (v1:=.int .i64 (Pa.wty ts (((((i+1)+1)+1)+1)+1):Int)) (v2:=.slice none 0 0) (v3:=.slice va13 x13.1.length vc13) hT hgw (Pa.Pr.nil _ _) hK' (Nat.lt_succ_of_lt hbw)
       have hRF:=Pa.rb_fn (Pa.tx ts (i+1)) (Pa.wty ts (((((i+1)+1)+1)+1)+1):Int) r1 r2 (by simp) hlk
       exact ⟨⟨Mill.ba (Pa.tx ts (i+1)),(Pa.wty ts (((((i+1)+1)+1)+1)+1):Int),none,0,0,va13,x13.1.length,vc13⟩,rfl,hRF,r3⟩
end Go.Proofs.YtlcckaffhnjneaaGreatDoor
