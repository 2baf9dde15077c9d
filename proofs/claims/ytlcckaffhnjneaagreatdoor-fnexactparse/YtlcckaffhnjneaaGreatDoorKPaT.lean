import Derived.Test.YtlcckaffhnjneaaGreatDoorKPaP
set_option maxRecDepth 100000
set_option maxHeartbeats 4000000
namespace Go.Proofs.YtlcckaffhnjneaaGreatDoor
open Go.RowKit
variable {ts:List (Mill.Piece × Nat)} {g:Nat} {a:Option Addr} {c:Nat} {s:Pa.S} {w:World}
def Pa.Cz (ts:List (Mill.Piece × Nat)) (g:Nat) (a:Option Addr) (c:Nat) (w:World) (nb:Nat) (d:Mill.Nd) (s:Pa.S) (W:World):Prop :=
 Pa.Cu ts g a c w nb d s W∧w.heap.size < nb∧g < w.heap.size∧W.heap[w.heap.size]? = some (.cells #[] 43)
variable {s2:Pa.S} {W W2:World} {nb:Nat} {d:Mill.Nd}
theorem Pa.Cz.to (h:Pa.Cz ts g a c w nb d s W) (hT:Pa.To ts g a c s2 W W2):Pa.Cz ts g a c w nb d s2 W2 :=
 ⟨h.1.to hT,h.2.1,h.2.2.1,(hT.2.keep _ (by have:=h.1.lt;have:=h.2.1;omega) (by have:=h.2.2.1;omega)).trans h.2.2.2⟩
theorem Pa.Cz.below (h:Pa.Cz ts g a c w nb d s W) (hb:Below W.heap.size W W2):Pa.Cz ts g a c w nb d s W2:=h.to ⟨h.1.D.below hb,Pa.Fr.of_below hb⟩
theorem Pa.Cz.set (h:Pa.Cz ts g a c w nb d s W) (k:Nat) (v:Value) (d':Mill.Nd) (hd:(#[.int .i64 d.kind,.int .i64 d.op,.int .i64 d.type,.int .i64 d.n,.string d.text,.int .i64 d.kids]:Array Value).setIfInBounds k v = #[.int .i64 d'.kind,.int .i64 d'.op,.int .i64 d'.type,.int .i64 d'.n,.string d'.text,.int .i64 d'.kids]):Pa.Cz ts g a c w nb d' s (W.setCell ⟨nb,k,none⟩ v) :=
 ⟨h.1.set k v d' hd,h.2.1,h.2.2.1,(Below.heap_setCell _ _ _ _ (by have:=h.2.1;simp only;omega)).trans h.2.2.2⟩
theorem Pa.Cz.row (h:Pa.Cz ts g a c w nb d s W):Pa.Row w.heap.size W (.slice (some ⟨w.heap.size,0,none⟩) 0 0) [] :=
 ⟨rfl,.inr ⟨w.heap.size,0,#[],rfl,Nat.le_refl _,h.2.2.2,Nat.le_refl _,by decide,rfl,rfl⟩⟩
theorem Pa.Cz.start (hD:Pa.D ts g a c s w):Pa.Cz ts g a c w (w.heap.size+1) ⟨0,0,0,0,⟨#[]⟩,1⟩ s ((w.alloc (.cells #[] 43)).alloc (.cells #[.int .i64 0,.int .i64 0,.int .i64 0,.int .i64 0,.string ⟨#[]⟩,.int .i64 1] 43)):=by
 refine ⟨Pa.Cu.start hD,by omega,hD.lt, ?_⟩
 have h1:=heap_alloc_new w (.cells #[] 43)
 have h2:Below (w.alloc (.cells #[] 43)).heap.size (w.alloc (.cells #[] 43)) ((w.alloc (.cells #[] 43)).alloc (.cells #[.int .i64 0,.int .i64 0,.int .i64 0,.int .i64 0,.string ⟨#[]⟩,.int .i64 1] 43)):=(Below.refl _ _).alloc (Nat.le_refl _) _
 rw [h2.block _ (by simp)];exact h1
theorem Pa.Cz.bad (h:Pa.Cz ts g a c w nb d s W) (b:Bool):Pa.Cz ts g a c w nb d ⟨s.p,b⟩ (W.setCell ⟨g,2,none⟩ (.bool b)):=h.to ⟨h.1.D.bad b,Pa.Fr.set _ _ _⟩
theorem Pa.wp_onez {ops:Array Oper} {rest:List Oper} {o:Oper} {A:Act} {Q:Exit→Act→World→Prop} (hgd:o.guard=none) (s' x:Operand)
  (ho:o.op = .call { callee:=.builtin .append,args := #[s',x],argTypes := #[22,22] }) (d':Mill.Nd) (hC:Pa.Cz ts g a c w nb d s W) (hs:A.eval s' = .slice (some ⟨w.heap.size,0,none⟩) 0 0) (hx:A.eval x = .slice (some ⟨W.heap.size,0,none⟩) 1 1)
  (h:∀ a' c' w',(∀ e,e = .returned (.slice a' 1 c')→Pa.Out ts g a c ([d'],s) w e w')→wpList Tryz.prog ops Q rest (A.put o.dst (.slice a' 1 c')) w') :
  wpList Tryz.prog ops Q (o::rest) A (W.alloc (.cells #[.int .i64 d'.kind,.int .i64 d'.op,.int .i64 d'.type,.int .i64 d'.n,.string d'.text,.int .i64 d'.kids] 43)):=by
 refine Pa.wp_nd (l:=[]) hgd s' x ho d' hs rfl hx hC.row hC.1.F.size (by omega) ?_
 intro a' c' w' hr hDg hFg hsz
 exact h a' c' w' (fun e he=>⟨a',c',he,hr,hDg _ _ _ _ _ hC.1.D hC.2.2.1,hFg _ _ hC.1.F (Nat.le_refl _)⟩)
theorem Pa.st_ret0 (hi0:Pa.is ts [105,102] s=false) (hi1:Pa.is ts [119,104,105,108,101] s=false) (hi2:Pa.is ts [108,101,116] s=false) (hi3:Pa.is ts [98,114,101,97,107] s=false) (hi4:Pa.is ts [99,111,110,116,105,110,117,101] s=false) (hiT:Pa.is ts [114,101,116,117,114,110] s=true) (hi9:Pa.is ts [59] (Pa.nx s)=true) (hD:Pa.D ts g a c s w) :
  Calls Tryz.prog 46 #[.pointer (some ⟨g,0,none⟩)] w (Pa.Out ts g a c ([⟨16,0,0,0,⟨#[]⟩,0⟩],Pa.need ts [59] (Pa.nx s)) w):=by
 have hgw:=hD.lt
 have hkn:=Pa.is_kind hiT
 obtain ⟨K,hK⟩:∃ K,Pa.kind ts s=K:=⟨_,rfl⟩
 rw [hK] at hkn
 have kb1:(K == 1)=false:=by simpa using hkn
 have hc:=Pa.Cz.start hD
 obtain ⟨nb,hnb⟩:∃ nb,w.heap.size+1=nb:=⟨_,rfl⟩
 rw [hnb] at hc
 go_enter Tryz.func46,Tryz.ntmps46
 go_wp2_with (first
  | (go_at_call 44;refine (Pa.kind_any hc.1.D).mono ?_;rintro e V ⟨rfl,hV⟩;replace hc:=hc.below hV;clear hV;rw [hK])
  | (go_at_call 25;refine (Pa.opt_any _ hc.1.D).mono ?_;rintro e V ⟨rfl,hT⟩;replace hc:=hc.to hT;clear hT;first | (rw [hi0];rw [Pa.not_opt hi0] at hc) | (rw [hi1];rw [Pa.not_opt hi1] at hc) | (rw [hi2];rw [Pa.not_opt hi2] at hc) | (rw [hi3];rw [Pa.not_opt hi3] at hc) | (rw [hi4];rw [Pa.not_opt hi4] at hc))
  | (go_at_call 25;refine (Pa.opt_any _ hc.1.D).mono ?_;rintro e V ⟨rfl,hT⟩;replace hc:=hc.to hT;clear hT;rw [hiT];rw [Pa.is_opt hiT] at hc;obtain ⟨⟨n0,n1,n2,n3,n4,n5⟩,nf⟩:=hc.1.cells;replace hc:=hc.set 0 (.int .i64 16) ⟨16,0,0,0,⟨#[]⟩,1⟩ rfl)
  | (go_at_call 43;refine (Pa.is_any _ hc.1.D).mono ?_;rintro e V ⟨rfl,hV⟩;replace hc:=hc.below hV;clear n0 n1 n2 n3 n4 n5 nf hV;rw [hi9];obtain ⟨⟨n0,n1,n2,n3,n4,n5⟩,nf⟩:=hc.1.cells;replace hc:=hc.set 5 (.int .i64 0) ⟨16,0,0,0,⟨#[]⟩,0⟩ rfl)
  | (go_at_call 23;refine (Pa.need_any [59] hc.1.D).mono ?_;rintro e V ⟨rfl,hT⟩;replace hc:=hc.to hT;clear n0 n1 n2 n3 n4 n5 nf hT;obtain ⟨⟨n0,n1,n2,n3,n4,n5⟩,nf⟩:=hc.1.cells)
  | (at_builtin;refine Pa.wp_onez rfl _ _ rfl ⟨16,0,0,0,⟨#[]⟩,0⟩ hc rfl rfl ?_;intro a5 c5 W5 hOut))
 go_ret
 exact hOut _ rfl
theorem Pa.st_none (hkn:Pa.kind ts s≠1) (hi0:Pa.is ts [105,102] s=false) (hi1:Pa.is ts [119,104,105,108,101] s=false) (hi2:Pa.is ts [108,101,116] s=false) (hi3:Pa.is ts [98,114,101,97,107] s=false) (hi4:Pa.is ts [99,111,110,116,105,110,117,101] s=false) (hi5:Pa.is ts [114,101,116,117,114,110] s=false) (hi6:Pa.is ts [102,97,105,108] s=false) (hi7:Pa.is ts [115,97,121] s=false) (hi8:Pa.is ts [119,114,105,116,101] s=false) (hD:Pa.D ts g a c s w) :
  Calls Tryz.prog 46 #[.pointer (some ⟨g,0,none⟩)] w (Pa.Out ts g a c ([⟨0,0,0,0,⟨#[]⟩,1⟩],⟨s.p,true⟩) w):=by
 have HN:Hid (Pa.need ts [59] ⟨s.p,true⟩=⟨s.p,true⟩):=by simp [Hid,Pa.need,Pa.is]
 have hgw:=hD.lt
 obtain ⟨K,hK⟩:∃ K,Pa.kind ts s=K:=⟨_,rfl⟩
 rw [hK] at hkn
 have kb1:(K == 1)=false:=by simpa using hkn
 have hc:=Pa.Cz.start hD
 obtain ⟨nb,hnb⟩:∃ nb,w.heap.size+1=nb:=⟨_,rfl⟩
 rw [hnb] at hc
 go_enter Tryz.func46,Tryz.ntmps46
 go_wp2_with (first
  | (go_at_call 44;refine (Pa.kind_any hc.1.D).mono ?_;rintro e V ⟨rfl,hV⟩;replace hc:=hc.below hV;clear hV;rw [hK])
  | (go_at_call 25;refine (Pa.opt_any _ hc.1.D).mono ?_;rintro e V ⟨rfl,hT⟩;replace hc:=hc.to hT;clear hT;first | (rw [hi0];rw [Pa.not_opt hi0] at hc) | (rw [hi1];rw [Pa.not_opt hi1] at hc) | (rw [hi2];rw [Pa.not_opt hi2] at hc) | (rw [hi3];rw [Pa.not_opt hi3] at hc) | (rw [hi4];rw [Pa.not_opt hi4] at hc) | (rw [hi5];rw [Pa.not_opt hi5] at hc) | (rw [hi6];rw [Pa.not_opt hi6] at hc) | (rw [hi7];rw [Pa.not_opt hi7] at hc))
  | (go_at_call 25;refine (Pa.opt_any _ hc.1.D).mono ?_;rintro e V ⟨rfl,hT⟩;replace hc:=hc.to hT;clear hT;rw [hi8];rw [Pa.not_opt hi8] at hc;obtain ⟨c0,c1,c2,f1,f2⟩:=hc.1.D.cells;replace hc:=hc.bad true)
  | (go_at_call 23;refine (Pa.need_any [59] hc.1.D).mono ?_;rintro e V ⟨rfl,hT⟩;replace hc:=hc.to hT;rw [HN.out] at hc;clear c0 c1 c2 f1 f2 hT;obtain ⟨⟨n0,n1,n2,n3,n4,n5⟩,nf⟩:=hc.1.cells)
  | (at_builtin;refine Pa.wp_onez rfl _ _ rfl ⟨0,0,0,0,⟨#[]⟩,1⟩ hc rfl rfl ?_;intro a5 c5 W5 hOut))
 go_ret
 exact hOut _ rfl
theorem Pa.st_set (hk:Pa.kind ts s=1) (hiT:Pa.is ts [61] (Pa.nx s)=true) (R:Pa.Nds × Pa.S) (hE:(∀ W,Pa.D ts g a c (Pa.nx (Pa.nx s)) W→Calls Tryz.prog 81 #[.pointer (some ⟨g,0,none⟩),.int .i64 ((1:Nat):Int)] W (Pa.Out ts g a c R W))) (hl:(R.1++[(⟨11,0,0,0,⟨#[]⟩,1⟩:Mill.Nd)]).length≤1000000) (hD:Pa.D ts g a c s w) :
  Calls Tryz.prog 46 #[.pointer (some ⟨g,0,none⟩)] w (Pa.Out ts g a c (R.1++[⟨11,0,0,0,Mill.ba (Pa.tx ts s.p),1⟩],Pa.need ts [59] R.2) w):=by
 have HN:Hid (Pa.name ts s=Pa.nx s):=by simp [Hid,Pa.name,hk]
 have HT:Hid (Pa.nameT ts s=Pa.tx ts s.p):=by simp [Hid,Pa.nameT,hk]
 obtain ⟨X,HX⟩:∃ X,Hid (Mill.ba (Pa.tx ts s.p)=X):=⟨_,rfl⟩
 rw [HX.out]
 have HE:Hid (∀ W,Pa.D ts g a c (Pa.nx (Pa.nx s)) W→Calls Tryz.prog 81 #[.pointer (some ⟨g,0,none⟩),.int .i64 ((1:Nat):Int)] W (Pa.Out ts g a c R W)):=hE
 have hgw:=hD.lt
 have hc:=Pa.Cu.start hD
 obtain ⟨nb,hnb⟩:∃ nb,w.heap.size+1=nb:=⟨_,rfl⟩
 rw [hnb] at hc
 clear hE
 go_enter Tryz.func46,Tryz.ntmps46
 go_wp2_with (first
  | (go_at_call 44;refine (Pa.kind_any hc.D).mono ?_;rintro e V ⟨rfl,hV⟩;replace hc:=hc.below hV;clear hV;rw [hk])
  | (go_at_call 24;refine (Pa.name_any hc.D).mono ?_;rintro e V ⟨rfl,hT⟩;replace hc:=hc.to hT;clear hT;rw [HT.out,HX.out];rw [HN.out] at hc)
  | (go_at_call 25;refine (Pa.opt_any _ hc.D).mono ?_;rintro e V ⟨rfl,hT⟩;replace hc:=hc.to hT;clear hT;rw [hiT];rw [Pa.is_opt hiT] at hc;obtain ⟨⟨n0,n1,n2,n3,n4,n5⟩,nf⟩:=hc.cells;replace hc:=hc.set 0 (.int .i64 11) ⟨11,0,0,0,⟨#[]⟩,1⟩ rfl;have nf2:∀ v k,(V.setCell ⟨nb,0,none⟩ v).frozen? ⟨nb,k,none⟩=false:=(fun v k=>(World.frozen?_setCell _ _ _ _).trans (nf k));replace hc:=hc.set 4 (.string X) ⟨11,0,0,0,X,1⟩ rfl)
  | (go_at_call 81;refine (HE.out _ hc.D).mono ?_;rintro e V ⟨va,vc,rfl,hr,hT⟩;replace hc:=hc.call hr hT;clear hr hT n0 n1 n2 n3 n4 n5 nf HE nf2)
  | (go_at_call 23;refine (Pa.need_any [59] hc.1.D).mono ?_;rintro e V ⟨rfl,hT⟩;replace hc:=hc.to hT;clear hT;obtain ⟨⟨n0,n1,n2,n3,n4,n5⟩,nf⟩:=hc.1.cells)
  | (at_builtin;refine Pa.wp_one (l:=R.1) rfl _ _ rfl ⟨11,0,0,0,X,1⟩ hc rfl (by simp) rfl (by simp at hl ⊢;omega) ?_;intro a5 c5 W5 hcE))
 go_ret
 exact hcE.out rfl rfl (by simp)
theorem Pa.st_dobad (hk:Pa.kind ts s=1) (hi0:Pa.is ts [61] (Pa.nx s)=false) (hb:(Pa.need ts [40] (Pa.nx s)).bad=true) (hD:Pa.D ts g a c s w) :
  Calls Tryz.prog 46 #[.pointer (some ⟨g,0,none⟩)] w (Pa.Out ts g a c ([],Pa.need ts [40] (Pa.nx s)) w):=by
 have HN:Hid (Pa.name ts s=Pa.nx s):=by simp [Hid,Pa.name,hk]
 have hgw:=hD.lt
 have hc:=Pa.Cz.start hD
 obtain ⟨nb,hnb⟩:∃ nb,w.heap.size+1=nb:=⟨_,rfl⟩
 rw [hnb] at hc
 obtain ⟨X,HX⟩:∃ X,Hid (Mill.ba (Pa.nameT ts s)=X):=⟨_,rfl⟩
 go_enter Tryz.func46,Tryz.ntmps46
 go_wp2_with (first
  | (go_at_call 44;refine (Pa.kind_any hc.1.D).mono ?_;rintro e V ⟨rfl,hV⟩;replace hc:=hc.below hV;clear hV;rw [hk])
  | (go_at_call 24;refine (Pa.name_any hc.1.D).mono ?_;rintro e V ⟨rfl,hT⟩;replace hc:=hc.to hT;clear hT;rw [HX.out];rw [HN.out] at hc)
  | (go_at_call 25;refine (Pa.opt_any _ hc.1.D).mono ?_;rintro e V ⟨rfl,hT⟩;replace hc:=hc.to hT;clear hT;rw [hi0];rw [Pa.not_opt hi0] at hc)
  | (go_at_call 23;refine (Pa.need_any [40] hc.1.D).mono ?_;rintro e V ⟨rfl,hT⟩;replace hc:=hc.to hT;clear hT;obtain ⟨c0,c1,c2,f1,f2⟩:=hc.1.D.cells;rw [hb] at c2))
 go_ret
 exact ⟨_,_,rfl,hc.row,hc.1.D,hc.1.F⟩
theorem Pa.st_do (hk:Pa.kind ts s=1) (hi0:Pa.is ts [61] (Pa.nx s)=false) (hb:(Pa.need ts [40] (Pa.nx s)).bad=false) (R:Pa.Nds × Nat × Pa.S) (hE:(∀ W,Pa.D ts g a c (Pa.need ts [40] (Pa.nx s)) W→Calls Tryz.prog 82 #[.pointer (some ⟨g,0,none⟩)] W fun e w' => ∃ va vc,e = .returned (.tuple #[.slice va R.1.length vc,.int .i64 (R.2.1:Int)])∧Pa.Row W.heap.size w' (.slice va R.1.length vc) R.1∧Pa.To ts g a c R.2.2 W w')) (hl:R.1.length+2≤1000000) (hD:Pa.D ts g a c s w) :
  Calls Tryz.prog 46 #[.pointer (some ⟨g,0,none⟩)] w (Pa.Out ts g a c (R.1++[⟨7,0,0,0,Mill.ba (Pa.tx ts s.p),(R.2.1:Int)⟩]++[⟨20,0,0,0,⟨#[]⟩,1⟩],Pa.need ts [59] R.2.2) w):=by
 have HN:Hid (Pa.name ts s=Pa.nx s):=by simp [Hid,Pa.name,hk]
 have HT:Hid (Pa.nameT ts s=Pa.tx ts s.p):=by simp [Hid,Pa.nameT,hk]
 obtain ⟨X,HX⟩:∃ X,Hid (Mill.ba (Pa.tx ts s.p)=X):=⟨_,rfl⟩
 rw [HX.out]
 have HE:Hid (∀ W,Pa.D ts g a c (Pa.need ts [40] (Pa.nx s)) W→Calls Tryz.prog 82 #[.pointer (some ⟨g,0,none⟩)] W fun e w' => ∃ va vc,e = .returned (.tuple #[.slice va R.1.length vc,.int .i64 (R.2.1:Int)])∧Pa.Row W.heap.size w' (.slice va R.1.length vc) R.1∧Pa.To ts g a c R.2.2 W w'):=hE
 have hgw:=hD.lt
 have hc:=Pa.Cu.start hD
 obtain ⟨nb,hnb⟩:∃ nb,w.heap.size+1=nb:=⟨_,rfl⟩
 rw [hnb] at hc
 have mkA:True:=trivial
 have mkB:True:=trivial
 clear hE
 go_enter Tryz.func46,Tryz.ntmps46
 go_wp2_with (first
  | (go_at_call 44;refine (Pa.kind_any hc.D).mono ?_;rintro e V ⟨rfl,hV⟩;replace hc:=hc.below hV;clear hV;rw [hk])
  | (go_at_call 24;refine (Pa.name_any hc.D).mono ?_;rintro e V ⟨rfl,hT⟩;replace hc:=hc.to hT;clear hT;rw [HT.out,HX.out];rw [HN.out] at hc)
  | (go_at_call 25;refine (Pa.opt_any _ hc.D).mono ?_;rintro e V ⟨rfl,hT⟩;replace hc:=hc.to hT;clear hT;rw [hi0];rw [Pa.not_opt hi0] at hc)
  | (have _t:=mkA;go_at_call 23;refine (Pa.need_any [40] hc.D).mono ?_;rintro e V ⟨rfl,hT⟩;replace hc:=hc.to hT;clear hT mkA;obtain ⟨c0,c1,c2,f1,f2⟩:=hc.D.cells;rw [hb] at c2)
  | (go_at_call 82;refine (HE.out _ hc.D).mono ?_;rintro e V ⟨va,vc,rfl,hr,hT⟩;replace hc:=hc.call hr hT;clear hr hT HE c0 c1 c2 f1 f2;obtain ⟨⟨n0,n1,n2,n3,n4,n5⟩,nf⟩:=hc.1.cells;replace hc:=hc.set 0 (.int .i64 20) ⟨20,0,0,0,⟨#[]⟩,1⟩ rfl;obtain ⟨V',hV'⟩:∃ V',V.setCell ⟨nb,0,none⟩ (.int .i64 20)=V':=⟨_,rfl⟩;rw [hV'] at hc)
  | (have _t:=mkB;at_builtin;refine Pa.wp_one (l:=R.1) rfl _ _ rfl ⟨7,0,0,0,X,(R.2.1:Int)⟩ hc rfl rfl rfl (by omega) ?_;intro a4 c4 W4 hc4;clear mkB n0 n1 n2 n3 n4 n5 nf hV';replace hc:=hc4;clear hc4)
  | (go_at_call 23;refine (Pa.need_any [59] hc.1.D).mono ?_;rintro e V ⟨rfl,hT⟩;replace hc:=hc.to hT;clear hT;obtain ⟨⟨n0,n1,n2,n3,n4,n5⟩,nf⟩:=hc.1.cells)
  | (at_builtin;refine Pa.wp_one (l:=R.1++[(⟨7,0,0,0,X,(R.2.1:Int)⟩:Mill.Nd)]) rfl _ _ rfl ⟨20,0,0,0,⟨#[]⟩,1⟩ hc rfl (by simp) rfl (by omega) ?_;intro a5 c5 W5 hcE))
 go_ret
 exact hcE.out rfl rfl (by simp)
variable {ts:List (Mill.Piece × Nat)} {g:Nat} {a:Option Addr} {c:Nat} {s:Pa.S} {w:World}
variable {s2:Pa.S} {W W2:World} {nb:Nat} {d:Mill.Nd}
theorem Pa.st_break (hi0:Pa.is ts [105,102] s=false) (hi1:Pa.is ts [119,104,105,108,101] s=false) (hi2:Pa.is ts [108,101,116] s=false) (hiT:Pa.is ts [98,114,101,97,107] s=true) (hD:Pa.D ts g a c s w) :
  Calls Tryz.prog 46 #[.pointer (some ⟨g,0,none⟩)] w (Pa.Out ts g a c ([⟨14,0,0,0,⟨#[]⟩,0⟩],Pa.need ts [59] (Pa.nx s)) w):=by
 have hgw:=hD.lt
 have hkn:=Pa.is_kind hiT
 obtain ⟨K,hK⟩:∃ K,Pa.kind ts s=K:=⟨_,rfl⟩
 rw [hK] at hkn
 have kb1:(K == 1)=false:=by simpa using hkn
 have hc:=Pa.Cz.start hD
 obtain ⟨nb,hnb⟩:∃ nb,w.heap.size+1=nb:=⟨_,rfl⟩
 rw [hnb] at hc
 go_enter Tryz.func46,Tryz.ntmps46
 go_wp2_with (first
  | (go_at_call 44;refine (Pa.kind_any hc.1.D).mono ?_;rintro e V ⟨rfl,hV⟩;replace hc:=hc.below hV;clear hV;rw [hK])
  | (go_at_call 25;refine (Pa.opt_any _ hc.1.D).mono ?_;rintro e V ⟨rfl,hT⟩;replace hc:=hc.to hT;clear hT;first | (rw [hi0];rw [Pa.not_opt hi0] at hc) | (rw [hi1];rw [Pa.not_opt hi1] at hc) | (rw [hi2];rw [Pa.not_opt hi2] at hc))
  | (go_at_call 25;refine (Pa.opt_any _ hc.1.D).mono ?_;rintro e V ⟨rfl,hT⟩;replace hc:=hc.to hT;clear hT;rw [hiT];rw [Pa.is_opt hiT] at hc;obtain ⟨⟨n0,n1,n2,n3,n4,n5⟩,nf⟩:=hc.1.cells;replace hc:=hc.set 0 (.int .i64 14) ⟨14,0,0,0,⟨#[]⟩,1⟩ rfl;replace hc:=hc.set 1 (.int .i64 0) ⟨14,0,0,0,⟨#[]⟩,1⟩ rfl;replace hc:=hc.set 2 (.int .i64 0) ⟨14,0,0,0,⟨#[]⟩,1⟩ rfl;replace hc:=hc.set 3 (.int .i64 0) ⟨14,0,0,0,⟨#[]⟩,1⟩ rfl;replace hc:=hc.set 4 (.string ⟨#[]⟩) ⟨14,0,0,0,⟨#[]⟩,1⟩ rfl;replace hc:=hc.set 5 (.int .i64 0) ⟨14,0,0,0,⟨#[]⟩,0⟩ rfl)
  | (go_at_call 23;refine (Pa.need_any [59] hc.1.D).mono ?_;rintro e V ⟨rfl,hT⟩;replace hc:=hc.to hT;clear n0 n1 n2 n3 n4 n5 nf hT;obtain ⟨⟨n0,n1,n2,n3,n4,n5⟩,nf⟩:=hc.1.cells)
  | (at_builtin;refine Pa.wp_onez rfl _ _ rfl ⟨14,0,0,0,⟨#[]⟩,0⟩ hc rfl rfl ?_;intro a5 c5 W5 hOut))
 go_ret
 exact hOut _ rfl
theorem Pa.st_continue (hi0:Pa.is ts [105,102] s=false) (hi1:Pa.is ts [119,104,105,108,101] s=false) (hi2:Pa.is ts [108,101,116] s=false) (hi3:Pa.is ts [98,114,101,97,107] s=false) (hiT:Pa.is ts [99,111,110,116,105,110,117,101] s=true) (hD:Pa.D ts g a c s w) :
  Calls Tryz.prog 46 #[.pointer (some ⟨g,0,none⟩)] w (Pa.Out ts g a c ([⟨15,0,0,0,⟨#[]⟩,0⟩],Pa.need ts [59] (Pa.nx s)) w):=by
 have hgw:=hD.lt
 have hkn:=Pa.is_kind hiT
 obtain ⟨K,hK⟩:∃ K,Pa.kind ts s=K:=⟨_,rfl⟩
 rw [hK] at hkn
 have kb1:(K == 1)=false:=by simpa using hkn
 have hc:=Pa.Cz.start hD
 obtain ⟨nb,hnb⟩:∃ nb,w.heap.size+1=nb:=⟨_,rfl⟩
 rw [hnb] at hc
 go_enter Tryz.func46,Tryz.ntmps46
 go_wp2_with (first
  | (go_at_call 44;refine (Pa.kind_any hc.1.D).mono ?_;rintro e V ⟨rfl,hV⟩;replace hc:=hc.below hV;clear hV;rw [hK])
  | (go_at_call 25;refine (Pa.opt_any _ hc.1.D).mono ?_;rintro e V ⟨rfl,hT⟩;replace hc:=hc.to hT;clear hT;first | (rw [hi0];rw [Pa.not_opt hi0] at hc) | (rw [hi1];rw [Pa.not_opt hi1] at hc) | (rw [hi2];rw [Pa.not_opt hi2] at hc) | (rw [hi3];rw [Pa.not_opt hi3] at hc))
  | (go_at_call 25;refine (Pa.opt_any _ hc.1.D).mono ?_;rintro e V ⟨rfl,hT⟩;replace hc:=hc.to hT;clear hT;rw [hiT];rw [Pa.is_opt hiT] at hc;obtain ⟨⟨n0,n1,n2,n3,n4,n5⟩,nf⟩:=hc.1.cells;replace hc:=hc.set 0 (.int .i64 15) ⟨15,0,0,0,⟨#[]⟩,1⟩ rfl;replace hc:=hc.set 1 (.int .i64 0) ⟨15,0,0,0,⟨#[]⟩,1⟩ rfl;replace hc:=hc.set 2 (.int .i64 0) ⟨15,0,0,0,⟨#[]⟩,1⟩ rfl;replace hc:=hc.set 3 (.int .i64 0) ⟨15,0,0,0,⟨#[]⟩,1⟩ rfl;replace hc:=hc.set 4 (.string ⟨#[]⟩) ⟨15,0,0,0,⟨#[]⟩,1⟩ rfl;replace hc:=hc.set 5 (.int .i64 0) ⟨15,0,0,0,⟨#[]⟩,0⟩ rfl)
  | (go_at_call 23;refine (Pa.need_any [59] hc.1.D).mono ?_;rintro e V ⟨rfl,hT⟩;replace hc:=hc.to hT;clear n0 n1 n2 n3 n4 n5 nf hT;obtain ⟨⟨n0,n1,n2,n3,n4,n5⟩,nf⟩:=hc.1.cells)
  | (at_builtin;refine Pa.wp_onez rfl _ _ rfl ⟨15,0,0,0,⟨#[]⟩,0⟩ hc rfl rfl ?_;intro a5 c5 W5 hOut))
 go_ret
 exact hOut _ rfl
variable {ts:List (Mill.Piece × Nat)} {g:Nat} {a:Option Addr} {c:Nat} {s:Pa.S} {w:World}
theorem Pa.stmt_next (n:Nat) (hn:n≤500000) (ihb:∀ m,m≤n→Pa.BlockIs ts g a c m) (ihc:∀ m,m≤n→Pa.CondIs ts g a c m):Pa.StmtIs ts g a c (n+1):=by
 intro s w R hR hl hD
 have hX:∀ (s':Pa.S) (r:Pa.Nds × Pa.S),Pa.expr ts n 1 s'=some r→r.1.length≤1000000→∀ W,Pa.D ts g a c s' W→Calls Tryz.prog 81 #[.pointer (some ⟨g,0,none⟩),.int .i64 ((1:Nat):Int)] W (Pa.Out ts g a c r W):=fun s' r h1 h2 W hW=>Pa.expr_any n hn 1 s' W r (by omega) (by omega) h1 h2 hW
 have hY:∀ (s':Pa.S) (r:Pa.Nds × Pa.S),Pa.block ts n s'=some r→r.1.length≤1000000→∀ W,Pa.D ts g a c s' W→Calls Tryz.prog 27 #[.pointer (some ⟨g,0,none⟩)] W (Pa.Out ts g a c r W):=fun s' r h1 h2 W hW=>ihb n (Nat.le_refl _) s' W r h1 h2 hW
 rw [Pa.stmt] at hR
 by_cases hk:Pa.kind ts s=1
 ·rw [if_pos hk] at hR
  cases h0:Pa.is ts [61] (Pa.nx s) with
  | true =>
   rw [h0,if_pos rfl,Option.map_eq_some_iff] at hR
   obtain ⟨r,hr,rfl⟩:=hR
   exact Pa.st_set hk h0 r (hX _ r hr (by simp at hl;omega)) (by simpa using hl) hD
  | false =>
   rw [h0,if_neg (by simp)] at hR
   cases hb:(Pa.need ts [40] (Pa.nx s)).bad with
   | true =>
    rw [hb,if_pos rfl,Option.some.injEq] at hR
    subst hR
    exact Pa.st_dobad hk h0 hb hD
   | false =>
    rw [hb,if_neg (by simp),Option.map_eq_some_iff] at hR
    obtain ⟨r,hr,rfl⟩:=hR
    cases n with
    | zero=>simp [Pa.exprs] at hr
    | succ n =>
     have hcnt:=Pa.exprs_cnt n _ _ hr
     have hl2:r.1.length+2≤1000000:=by simp at hl;omega
     exact Pa.st_do hk h0 hb r (fun W hW=>Pa.exprs_any n (fun m hm=>Pa.expr_any m (by omega)) r hr (by omega) (by omega) hW) hl2 hD
 ·rw [if_neg hk] at hR
  cases h0:Pa.is ts [105,102] s with
  | true =>
   rw [h0,if_pos rfl] at hR
   cases n with
   | zero=>simp [Pa.cond] at hR
   | succ n=>exact Pa.st_if h0 R (fun W hW=>ihc (n+1) (Nat.le_refl _) _ W R hR hl hW) hD
  | false =>
   rw [h0,if_neg (by simp)] at hR
   cases h1:Pa.is ts [119,104,105,108,101] s with
   | true =>
    rw [h1,if_pos rfl] at hR
    cases hA:Pa.expr ts n 1 (Pa.nx s) with
    | none=>rw [hA] at hR;simp at hR
    | some r1 =>
     rw [hA] at hR
     simp only [Option.map_eq_some_iff] at hR
     obtain ⟨r2,hr2,rfl⟩:=hR
     exact Pa.st_while h0 h1 r1 r2 (hX _ r1 hA (by simp at hl;omega)) (hY _ r2 hr2 (by simp at hl;omega)) (by simpa using hl) hD
   | false =>
    rw [h1,if_neg (by simp)] at hR
    cases h2:Pa.is ts [108,101,116] s with
    | true =>
     rw [h2,if_pos rfl] at hR
     rw [Option.map_eq_some_iff] at hR
     obtain ⟨r,hr,rfl⟩:=hR
     exact Pa.st_let h0 h1 h2 r (hX _ r hr (by simp at hl;omega)) (by simpa using hl) hD
    | false =>
     rw [h2,if_neg (by simp)] at hR
     cases h3:Pa.is ts [98,114,101,97,107] s with
     | true =>
      rw [h3,if_pos rfl] at hR
      rw [Option.some.injEq] at hR
      subst hR
      exact Pa.st_break h0 h1 h2 h3 hD
     | false =>
      rw [h3,if_neg (by simp)] at hR
      cases h4:Pa.is ts [99,111,110,116,105,110,117,101] s with
      | true =>
       rw [h4,if_pos rfl] at hR
       rw [Option.some.injEq] at hR
       subst hR
       exact Pa.st_continue h0 h1 h2 h3 h4 hD
      | false =>
       rw [h4,if_neg (by simp)] at hR
       cases h5:Pa.is ts [114,101,116,117,114,110] s with
       | true =>
        rw [h5,if_pos rfl] at hR
        cases h9:Pa.is ts [59] (Pa.nx s) with
        | true =>
         rw [h9,if_pos rfl,Option.some.injEq] at hR
         subst hR
         exact Pa.st_ret0 h0 h1 h2 h3 h4 h5 h9 hD
        | false =>
         rw [h9,if_neg (by simp),Option.map_eq_some_iff] at hR
         obtain ⟨r,hr,rfl⟩:=hR
         exact Pa.st_return h0 h1 h2 h3 h4 h5 h9 r (hX _ r hr (by simp at hl;omega)) (by simpa using hl) hD
       | false =>
        rw [h5,if_neg (by simp)] at hR
        cases h6:Pa.is ts [102,97,105,108] s with
        | true =>
         rw [h6,if_pos rfl] at hR
         rw [Option.map_eq_some_iff] at hR
         obtain ⟨r,hr,rfl⟩:=hR
         exact Pa.st_fail h0 h1 h2 h3 h4 h5 h6 r (hX _ r hr (by simp at hl;omega)) (by simpa using hl) hD
        | false =>
         rw [h6,if_neg (by simp)] at hR
         cases h7:Pa.is ts [115,97,121] s with
         | true =>
          rw [h7,if_pos rfl] at hR
          rw [Option.map_eq_some_iff] at hR
          obtain ⟨r,hr,rfl⟩:=hR
          exact Pa.st_say h0 h1 h2 h3 h4 h5 h6 h7 r (hX _ r hr (by simp at hl;omega)) (by simpa using hl) hD
         | false =>
          rw [h7,if_neg (by simp)] at hR
          cases h8:Pa.is ts [119,114,105,116,101] s with
          | true =>
           rw [h8,if_pos rfl] at hR
           cases hA:Pa.expr ts n 1 (Pa.nx s) with
           | none=>rw [hA] at hR;simp at hR
           | some r1 =>
            rw [hA] at hR
            simp only [Option.map_eq_some_iff] at hR
            obtain ⟨r2,hr2,rfl⟩:=hR
            exact Pa.st_write h0 h1 h2 h3 h4 h5 h6 h7 h8 r1 r2 (hX _ r1 hA (by simp at hl;omega)) (hX _ r2 hr2 (by simp at hl;omega)) (by simpa using hl) hD
          | false =>
           rw [h8,if_neg (by simp)] at hR
           rw [Option.some.injEq] at hR
           subst hR
           exact Pa.st_none hk h0 h1 h2 h3 h4 h5 h6 h7 h8 hD
theorem Pa.three (n:Nat) (hn:n≤500000):Pa.BlockIs ts g a c n∧Pa.CondIs ts g a c n∧Pa.StmtIs ts g a c n:=by
 induction n using Nat.strongRecOn with
 | ind n h =>
  cases n with
  | zero=>exact ⟨fun s w R hR=>by simp [Pa.block] at hR,fun s w R hR=>by simp [Pa.cond] at hR,fun s w R hR=>by simp [Pa.stmt] at hR⟩
  | succ n =>
   have h1:∀ m,m≤n→Pa.BlockIs ts g a c m:=fun m hm=>(h m (by omega) (by omega)).1
   have h2:∀ m,m≤n→Pa.CondIs ts g a c m:=fun m hm=>(h m (by omega) (by omega)).2.1
   have h3:∀ m,m≤n→Pa.StmtIs ts g a c m:=fun m hm=>(h m (by omega) (by omega)).2.2
   exact ⟨Pa.block_next n (by omega) h3,Pa.cond_next n (by omega) h1 h2,Pa.stmt_next n (by omega) h1 h2⟩
variable {ts:List (Mill.Piece × Nat)} {g:Nat} {a:Option Addr} {c:Nat} {s s2:Pa.S} {w W W2:World} {nb:Nat} {d:Mill.Nd} {va:Option Addr} {vc:Nat} {l:List Mill.Nd}
theorem Pa.run_append_at {P:Program} {w:World} (base:Nat) (t ty e:TypeId) (i:TypeInfo) (z:Value) (size bytes:Nat) (ht:P.underlying t=some (.slice e)) (hi:P.info? e=some i) (hz:i.zero=some z) (hsize:i.size=size) (hby:i.bytes=bytes) (hzs:z.cells.size=size) (hs0:0 < size)
  (v:Value) (n:Nat) (xs:List Value) (hown:w.ownsRow base e size v n xs) (ao:Option Addr) (m c:Nat) (news:List Value) (hlen:news.length=m * size) (hsrc:Pa.Src w ao m news) (h1c:∀ u ∈ news,u.oneCell'=true) (b1:n+m≤maxLen) (b2:(n+m) * bytes≤140737488355328) (hbase:base≤w.heap.size) :
  ∃ v' w',(Builtin.append_ #[t,t] ty #[v,.slice ao m c]).run P w = .ok v' w'∧w'.ownsRow base e size v' (n+m) (xs++news)∧w.grownBy w' v.ownBlock∧(v'.ownBlock=v.ownBlock∨v'.ownBlock=some w.heap.size):=by
 by_cases h0:m=0
 ·subst h0
  have hn:news=[]:=List.eq_nil_of_length_eq_zero (by omega)
  subst hn
  refine ⟨v,w,Pa.run_append_zero base t ty e i size ht hi v n _ hown ao c, ?_,⟨rfl,rfl,rfl,Nat.le_refl _,fun _ _ _=>rfl⟩,.inl rfl⟩
  simpa using hown
 ·obtain ⟨ad,rfl,hc⟩:=hsrc (by omega)
  obtain ⟨v',w',h1,h2,h3,_,h5⟩:=run_append_own_at (P:=P) (w:=w) base t ty e i z size bytes ht hi hz hsize hby hzs hs0 v n xs hown ad m c news hlen hc h1c b1 b2 hbase
  exact ⟨v',w',h1,h2,h3,h5⟩
def Pa.Ce (ts:List (Mill.Piece × Nat)) (g:Nat) (a:Option Addr) (c:Nat) (w:World) (nb:Nat) (d:Mill.Nd) (s:Pa.S) (W:World) (va:Option Addr) (vc:Nat) (l:List Mill.Nd):Prop :=
 Pa.Cu ts g a c w nb d s W∧Pa.Row w.heap.size W (.slice va l.length vc) l∧(Value.slice va l.length vc).ownBlock≠some nb∧g < w.heap.size
theorem Pa.Ce.to (h:Pa.Ce ts g a c w nb d s W va vc l) (hT:Pa.To ts g a c s2 W W2):Pa.Ce ts g a c w nb d s2 W2 va vc l:=⟨h.1.to hT,hT.2.own h.2.1 h.2.2.2,h.2.2.1,h.2.2.2⟩
theorem Pa.Ce.set (h:Pa.Ce ts g a c w nb d s W va vc l) (k:Nat) (v:Value) (d':Mill.Nd) (hd:(#[.int .i64 d.kind,.int .i64 d.op,.int .i64 d.type,.int .i64 d.n,.string d.text,.int .i64 d.kids]:Array Value).setIfInBounds k v = #[.int .i64 d'.kind,.int .i64 d'.op,.int .i64 d'.type,.int .i64 d'.n,.string d'.text,.int .i64 d'.kids]):Pa.Ce ts g a c w nb d' s (W.setCell ⟨nb,k,none⟩ v) va vc l :=
 ⟨h.1.set k v d' hd,Pa.own_keep h.2.1 (fun j hj _ _=>Below.heap_setCell _ _ _ _ (by intro e;simp only at e;subst e;exact h.2.2.1 hj)),h.2.2.1,h.2.2.2⟩
theorem Pa.Ce.blk (h:Pa.Ce ts g a c w nb d s W va vc l) {k:Nat} (hk:(Value.slice va l.length vc).ownBlock=some k):k < W.heap.size∧w.heap.size≤k:=by
 rcases h.2.1.2 with ⟨he,_⟩ | ⟨b,cap,cur,he,hb,hg,_⟩
 ·rw [he] at hk;simp [Value.ownBlock] at hk
 ·rw [he] at hk;simp [Value.ownBlock] at hk;subst hk;exact ⟨(Array.getElem?_eq_some_iff.1 hg).1,hb⟩
theorem Pa.Ce.other (h:Pa.Ce ts g a c w nb d s W va vc l) {pb:Nat} (k:Nat) (v:Value) (h1:nb < pb) (h2:(Value.slice va l.length vc).ownBlock≠some pb):Pa.Ce ts g a c w nb d s (W.setCell ⟨pb,k,none⟩ v) va vc l:=by
 have hgn:=h.1.gn
 have hgw:=h.1.gw
 refine ⟨⟨⟨?_,h.1.D.tks.keep fun j hj=>Below.heap_setCell _ _ _ _ (by simp only;omega),h.1.D.le,h.1.D.len,h.1.D.cap⟩, ?_,hgn, ?_,hgw⟩,Pa.own_keep h.2.1 (fun j hj _ _=>Below.heap_setCell _ _ _ _ (by intro e;simp only at e;subst e;exact h2 hj)),h.2.2.1,h.2.2.2⟩
 ·rw [Below.heap_setCell _ _ _ _ (by simp only;omega)];exact h.1.D.blk
 ·exact ⟨h.1.F.os,h.1.F.tape,h.1.F.output,Nat.le_trans h.1.F.size (by simp [World.setCell]),fun j hj hjg=>(Below.heap_setCell _ _ _ _ (by simp only;omega)).trans (h.1.F.keep j hj hjg)⟩
 ·rw [Below.heap_setCell _ _ _ _ (by simp only;omega)];exact h.1.nd
theorem Pa.Ce.alloc (h:Pa.Ce ts g a c w nb d s W va vc l) (o:Obj):Pa.Ce ts g a c w nb d s (W.alloc o) va vc l:=h.to ⟨h.1.D.alloc o,(Pa.Fr.refl _ _).alloc o⟩
theorem Pa.Ce.out {R:Pa.Nds × Pa.S} {n:Nat} {e:Ending} (h:Pa.Ce ts g a c w nb d s W va vc l) (hR:(l,s)=R) (he:e = .returned (.slice va n vc)) (hn:l.length=n):Pa.Out ts g a c R w e W:=Pa.out_of hR he hn h.2.1 h.1.D h.1.F
theorem Pa.Ce.grown {v':Value} {a':Option Addr} {c':Nat} {l2:List Mill.Nd} (h:Pa.Ce ts g a c w nb d s W va vc l) (hv:v' = .slice a' (l++l2).length c') (hr:Pa.Row w.heap.size W2 v' (l++l2)) (hg:W.grownBy W2 (Value.slice va l.length vc).ownBlock) (hb:v'.ownBlock=(Value.slice va l.length vc).ownBlock∨v'.ownBlock=some W.heap.size):Pa.Ce ts g a c w nb d s W2 a' c' (l++l2):=by
 subst hv
 have hlt:=h.1.lt
 refine ⟨⟨Pa.D_grown h.1.D h.2.1 h.2.2.2 hg,Pa.fr_grown h.1.F h.2.1 (Nat.le_refl _) hg,h.1.gn, ?_,h.1.gw⟩,hr, ?_,h.2.2.2⟩
 ·rw [hg.block nb hlt (fun e=>h.2.2.1 e.symm)];exact h.1.nd
 ·rcases hb with hb | hb
  ·rw [hb];exact h.2.2.1
  ·rw [hb];intro e;injection e with e;omega
theorem Pa.wp_midE {ops:Array Oper} {rest:List Oper} {o:Oper} {A:Act} {Q:Exit→Act→World→Prop} (hgd:o.guard=none) (s' x:Operand)
  (ho:o.op = .call { callee:=.builtin .append,args := #[s',x],argTypes := #[22,22] }) {n B2 sc:Nat} {sa:Option Addr} {l2:List Mill.Nd} (hC:Pa.Ce ts g a c w nb d s W va vc l) (hs:A.eval s' = .slice va n vc) (hn:l.length=n) (hx:A.eval x = .slice sa l2.length sc) (hr2:Pa.Row B2 W (.slice sa l2.length sc) l2) (hK:l.length+l2.length≤1000000)
  (h:∀ a' c' w',Pa.Ce ts g a c w nb d s w' a' c' (l++l2)→wpList Tryz.prog ops Q rest (A.put o.dst (.slice a' (l++l2).length c')) w') :
  wpList Tryz.prog ops Q (o::rest) A W:=by
 subst hn
 obtain ⟨i0,hi0,hy0,hy1,hy2⟩:=info_parts Tryz.infoNodeP
 refine wpList_plain hgd fun K hK2 => ?_
 obtain ⟨v',w',hr,h2,h3,h4⟩:=Pa.run_append_at (P:=Tryz.prog) (w:=W) w.heap.size 22 o.type 43 i0 (.agg #[.int .i64 0,.int .i64 0,.int .i64 0,.int .i64 0,.string ByteArray.empty,.int .i64 0]) 6 56 Tryz.underlying22 hi0 hy0 hy1 hy2 rfl (by decide) _ _ _ hC.2.1 sa l2.length sc (Mill.ndCs l2) (Pa.nd_len l2) (Pa.own_src hr2) (Pa.nd_one l2) (by unfold maxLen;omega) (by omega) hC.1.F.size
 have hown':Pa.Row w.heap.size w' v' (l++l2):=by
  unfold Pa.Row
  rw [Pa.ndCs_app,List.length_append];exact h2
 obtain ⟨a',c',hv⟩:=Pa.rowLen hown'
 unfold Oper.wp execOp
 simp only [ho,resolve,invoke,builtin,Sem.run_bind,Sem.run_pure,Result.andThen_ok,List.map_toArray,List.map_cons,List.map_nil,hs,hx,hr]
 have hfin:=h a' c' w' (hC.grown hv hown' h3 h4)
 rw [← hv] at hfin
 exact hK2 _ _ hfin
theorem Pa.wp_oneE {ops:Array Oper} {rest:List Oper} {o:Oper} {A:Act} {Q:Exit→Act→World→Prop} (hgd:o.guard=none) (s' x:Operand)
  (ho:o.op = .call { callee:=.builtin .append,args := #[s',x],argTypes := #[22,22] }) {n:Nat} (d':Mill.Nd) (hC:Pa.Ce ts g a c w nb d s W va vc l) (hs:A.eval s' = .slice va n vc) (hn:l.length=n) (hx:A.eval x = .slice (some ⟨W.heap.size,0,none⟩) 1 1) (hK:n+1≤1000000)
  (h:∀ a' c' w',Pa.Ce ts g a c w nb d s w' a' c' (l++[d'])→wpList Tryz.prog ops Q rest (A.put o.dst (.slice a' (l++[d']).length c')) w') :
  wpList Tryz.prog ops Q (o::rest) A (W.alloc (.cells #[.int .i64 d'.kind,.int .i64 d'.op,.int .i64 d'.type,.int .i64 d'.n,.string d'.text,.int .i64 d'.kids] 43)) :=
 Pa.wp_midE (l:=l) (l2:=[d']) hgd s' x ho (hC.alloc _) hs hn hx (Pa.new_nds W 0 (Nat.zero_le _) [d'] (by simp) #[.int .i64 d'.kind,.int .i64 d'.op,.int .i64 d'.type,.int .i64 d'.n,.string d'.text,.int .i64 d'.kids] rfl) (by simp;omega) h
end Go.Proofs.YtlcckaffhnjneaaGreatDoor
