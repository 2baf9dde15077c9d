import Derived.Test.YtlcckaffhnjneaaGreatDoorKPdA
import Derived.Test.YtlcckaffhnjneaaGreatDoorKPaT
import Derived.Test.YtlcckaffhnjneaaGreatDoorKTreeY
import Derived.Test.YtlcckaffhnjneaaGreatDoorKPcB
import Derived.Defers
import Derived.Recover
set_option maxRecDepth 100000
set_option maxHeartbeats 2000000
namespace Go.Proofs.YtlcckaffhnjneaaGreatDoor
open Go.RowKit
def Pa.Gr (w w':World) (ob ob':Option Nat):Prop:=w.grownBy w' ob∧(ob'=ob∨∀ k,ob'=some k→w.heap.size≤k)
theorem Pa.Gr.refl (w:World) (ob:Option Nat):Pa.Gr w w ob ob:=⟨⟨rfl,rfl,rfl,Nat.le_refl _,fun _ _ _=>rfl⟩,.inl rfl⟩
theorem Pa.Gr.trans {a b c:World} {o p q:Option Nat} (h:Pa.Gr a b o p) (k:Pa.Gr b c p q):Pa.Gr a c o q:=by
 refine ⟨⟨k.1.os.trans h.1.os,k.1.tape.trans h.1.tape,k.1.output.trans h.1.output,Nat.le_trans h.1.size k.1.size,fun x hx ho => ?_⟩, ?_⟩
 ·rw [k.1.block x (Nat.lt_of_lt_of_le hx h.1.size) ?_]
  ·exact h.1.block x hx ho
  ·rcases h.2 with e | e
   ·rw [e];exact ho
   ·intro e2;have:=e x e2.symm;omega
 ·rcases k.2 with e | e
  ·rw [e];exact h.2
  ·exact .inr fun x hx=>Nat.le_trans h.1.size (e x hx)
theorem Pa.Gr.below {a b c:World} {o p:Option Nat} (h:Below a.heap.size a b) (k:Pa.Gr b c o p):Pa.Gr a c o p:=by
 refine ⟨⟨k.1.os.trans h.os,k.1.tape.trans h.tape,k.1.output.trans h.output,Nat.le_trans h.size k.1.size,fun x hx ho=>(k.1.block x (Nat.lt_of_lt_of_le hx h.size) ho).trans (h.block x hx)⟩, ?_⟩
 rcases k.2 with e | e
 ·exact .inl e
 ·exact .inr fun x hx=>Nat.le_trans h.size (e x hx)
theorem Pa.wp_ndx {w:World} {ops:Array Oper} {rest:List Oper} {o:Oper} {A:Act} {Q:Exit→Act→World→Prop} (hgd:o.guard=none) (s x:Operand)
  (ho:o.op = .call { callee:=.builtin .append,args := #[s,x],argTypes := #[22,22] }) {B dc n:Nat} {da:Option Addr} {l:List Mill.Nd} (d:Mill.Nd) (hs:A.eval s = .slice da n dc) (hn:l.length=n) (hx:A.eval x = .slice (some ⟨w.heap.size,0,none⟩) 1 1) (h1:Pa.Row B w (.slice da l.length dc) l) (hB:B≤w.heap.size) (hK:n+1≤1000000)
  (h:∀ a' c' w',Pa.Row B w' (.slice a' (l++[d]).length c') (l++[d])→Pa.Gr w w' (Value.slice da l.length dc).ownBlock (Value.slice a' (l++[d]).length c').ownBlock→wpList Tryz.prog ops Q rest (A.put o.dst (.slice a' (l++[d]).length c')) w') :
  wpList Tryz.prog ops Q (o::rest) A (w.alloc (.cells #[.int .i64 d.kind,.int .i64 d.op,.int .i64 d.type,.int .i64 d.n,.string d.text,.int .i64 d.kids] 43)):=by
 subst hn
 have hb:Below w.heap.size w (w.alloc (.cells #[.int .i64 d.kind,.int .i64 d.op,.int .i64 d.type,.int .i64 d.n,.string d.text,.int .i64 d.kids] 43)):=(Below.refl _ _).alloc (Nat.le_refl _) _
 have h2:=Pa.new_nds w B hB [d] (by simp) #[.int .i64 d.kind,.int .i64 d.op,.int .i64 d.type,.int .i64 d.n,.string d.text,.int .i64 d.kids] rfl
 obtain ⟨i0,hi0,hy0,hy1,hy2⟩:=info_parts Tryz.infoNodeP
 obtain ⟨v',w',hr,h3,h4,h5⟩:=Pa.run_append_at (P:=Tryz.prog) (w:=w.alloc (.cells #[.int .i64 d.kind,.int .i64 d.op,.int .i64 d.type,.int .i64 d.n,.string d.text,.int .i64 d.kids] 43)) B 22 o.type 43 i0 (.agg #[.int .i64 0,.int .i64 0,.int .i64 0,.int .i64 0,.string ByteArray.empty,.int .i64 0]) 6 56 Tryz.underlying22 hi0 hy0 hy1 hy2 rfl (by decide) _ _ _ (Mill.own_below h1 hb) (some ⟨w.heap.size,0,none⟩) 1 1 (Mill.ndCs [d]) (Pa.nd_len [d]) (Pa.own_src h2) (Pa.nd_one [d]) (by unfold maxLen;omega) (by omega) (by simp only [World.size_alloc];omega)
 obtain ⟨a',c',hv⟩:=Pa.rowLen h3
 have hlen:(l++[d]).length=l.length+1:=by simp
 rw [hv] at h3 h5 hr
 refine wpList_plain hgd fun K hK2 => ?_
 unfold Oper.wp execOp
 simp only [ho,resolve,invoke,builtin,Sem.run_bind,Sem.run_pure,Result.andThen_ok,List.map_toArray,List.map_cons,List.map_nil,hs,hx,hr]
 rw [← hlen] at h3 h5 ⊢
 refine hK2 _ _ (h a' c' w' ?_ (Pa.Gr.below hb ⟨h4, ?_⟩))
 ·unfold Pa.Row
  rw [Pa.ndCs_app];exact h3
 ·rcases h5 with e | e
  ·exact .inl e
  ·exact .inr fun k hk=>by rw [e] at hk;injection hk with hk;omega
def Pa.Listed (B:Nat) (w:World) (va:Option Addr) (vc:Nat) (l m:List Mill.Nd) (e:Ending) (w':World):Prop := ∃ va' vc',e = .returned (.slice va' (l++m).length vc')∧Pa.Row B w' (.slice va' (l++m).length vc') (l++m)∧Pa.Gr w w' (Value.slice va l.length vc).ownBlock (Value.slice va' (l++m).length vc').ownBlock
def Pa.ListTo (n:Nat):Prop := ∀ (t:Mill.Tr) (v:Value) (w:World) (P:Nat→Prop) (B:Nat) (va:Option Addr) (vc:Nat) (l:List Mill.Nd),t.high < n→(∀ g,P g→g < B)→B≤w.heap.size→Mill.Rep P w t v→Pa.Row B w (.slice va l.length vc) l→l.length+(Pa.flat t).length≤1000000 →
 Calls Tryz.prog 16 #[.slice va l.length vc,v] w (Pa.Listed B w va vc l (Pa.flat t))
theorem Pa.flats_at (ts:List Mill.Tr) (i:Nat) (h:i < ts.length):Pa.flats (ts.take (i+1))=Pa.flats (ts.take i)++Pa.flat ts[i]:=by
 rw [← List.take_append_getElem h,Pa.flats_app,Pa.flats_one]
theorem Pa.flats_le (ts:List Mill.Tr) (i:Nat):(Pa.flats (ts.take i)).length≤(Pa.flats ts).length:=by
 have h:=Pa.flats_app (ts.take i) (ts.drop i)
 rw [List.take_append_drop] at h
 rw [h,List.length_append];omega
theorem Pa.listed_gen (n:Nat) (ih:Pa.ListTo n) (T:TypeId) (f:FuncId) (hm:∀ (v:Value) (w:World),(method 345 T v "loop.example/kilnmill/impl.parts").run Tryz.prog w = .ok (f,v) w) (hcf:∀ (x:Array Value) (w:World),(callFunc f x).run Tryz.prog w = .ok (.enter f x) w) (d:Mill.Nd) (P:Nat→Prop) (ts:List Mill.Tr) (us:List Value) (X:Value) (w:World) (B:Nat) (va:Option Addr) (vc:Nat) (l:List Mill.Nd) (hP:∀ g,P g→g < B) (hB:B≤w.heap.size) (hl2:us.length≤100000) (hpt:Calls Tryz.prog f #[X] w fun e w'=>Mill.Parts P w d us e w') (hR:Mill.Reps P w ts us) (hh:Mill.Tr.highs ts≤n) (hrow:Pa.Row B w (.slice va l.length vc) l) (hll:l.length+(Pa.flat (.node d ts)).length≤1000000) :
  Calls Tryz.prog 16 #[.slice va l.length vc,.iface T X] w (Pa.Listed B w va vc l (Pa.flat (.node d ts))):=by
 have hul:=Mill.Reps.len ts us hR
 obtain ⟨m,HM⟩:∃ m,Hid (us.length=m):=⟨_,(rfl:us.length=_)⟩
 have hml:m≤100000:=by rw [← HM.out];exact hl2
 have hmt:ts.length=m:=by rw [← hul];exact HM.out
 have hRa:=Mill.Reps.at ts us hR
 obtain ⟨D,HD⟩:∃ D,Hid (Mill.takenN d us.length=D):=⟨_,rfl⟩
 have HFL:Hid (Pa.flat (.node d ts)=Pa.flats ts++[D]):=by rw [Hid,Pa.flat,← hul,HD.out]
 rw [HFL.out] at hll ⊢
 have hob:∀ k,(Value.slice va l.length vc).ownBlock=some k→B≤k∧k < w.heap.size:=fun k hk=>(Pa.row_type hrow hk).1
 obtain ⟨L,HL⟩:∃ L,Hid (l.length=L):=⟨_,rfl⟩
 have hLL:L+(Pa.flats ts).length+1≤1000000:=by rw [← HL.out];simp at hll;omega
 clear hl2 hul hR hll
 rw [HL.out]
 go_enter Tryz.func16,Tryz.ntmps16
 go_wp2_with (refine hpt.mono ?_;rintro e w1 ⟨S,rfl,hb,hS⟩;rw [HM.out] at hS;rw [HD.out];rcases D with ⟨c',o',t',y',x',k'⟩;simp only [Mill.ndV];obtain ⟨sa,sc,rfl,hcl⟩:=hS)
 have hz:=hb.size
 obtain ⟨w2,hw2⟩:∃ w2,w1.alloc (.cells #[.int .i64 c',.int .i64 o',.int .i64 t',.int .i64 y',.string x',.int .i64 k'] 43)=w2:=⟨_,rfl⟩
 have hb12:Below w1.heap.size w1 w2:=by rw [← hw2];exact (Below.refl _ _).alloc (Nat.le_refl _) _
 have hnd:w2.heap[w1.heap.size]? = some (.cells #[.int .i64 c',.int .i64 o',.int .i64 t',.int .i64 y',.string x',.int .i64 k'] 43):=by rw [← hw2];exact heap_alloc_new _ _
 rw [hw2]
 clear hw2
 have hsz2:w1.heap.size < w2.heap.size:=(Array.getElem?_eq_some_iff.1 hnd).1
 have hb02:Below w.heap.size w w2:=hb.trans (hb12.mono hz)
 have hrow2:Pa.Row B w2 (.slice va L vc) l:=by rw [← HL.out];exact Mill.own_below hrow hb02
 rw [HL.out] at hob
 have HP:Hid (∀ (W:World) (ob:Option Nat),Pa.Gr w2 W (Value.slice va L vc).ownBlock ob→∀ k,(k < B∨(w.heap.size≤k∧k≤w1.heap.size))→W.heap[k]? = w2.heap[k]?):=fun W ob hG k hk=>hG.1.block k (by omega) (fun e=>by have:=hob k e.symm;omega)
 have HC:Hid (∀ (W:World) (ob:Option Nat),Pa.Gr w2 W (Value.slice va L vc).ownBlock ob→∀ (j:Nat) u,us[j]? = some u→∃ g,sa=some ⟨g,0,none⟩∧W.cell? ⟨g,j,none⟩=some u):=fun W ob hG j u hj=>by
  obtain ⟨g,ha,hg,hq⟩:=hcl j u hj
  have hg1:g < B∨(w.heap.size≤g∧g≤w1.heap.size):=by
   rcases hg with hg | hg
   ·exact .inl (hP g hg)
   ·exact .inr ⟨hg.1,Nat.le_of_lt hg.2⟩
  have hg2:g < w1.heap.size:=by
   rcases hg with hg | hg
   ·have:=hP g hg;omega
   ·exact hg.2
  refine ⟨g,ha, ?_⟩
  rw [World.cell?_of_block (HP.out W ob hG g hg1),World.cell?_of_block (hb12.block g hg2)]
  exact hq
 have HRP:Hid (∀ (W:World) (ob:Option Nat),Pa.Gr w2 W (Value.slice va L vc).ownBlock ob→∀ (i:Nat) (h:i < ts.length),∃ u,us[i]? = some u∧Mill.Rep P W ts[i] u):=fun W ob hG i h=>by
  obtain ⟨u,hu,hr⟩:=hRa i h
  exact ⟨u,hu,Mill.Rep.below (fun g h=>h) (fun g h=>by have:=hP g h;rw [HP.out W ob hG g (.inl this)];exact hb02.block g (by omega)) _ _ hr⟩
 clear hcl hpt hm hcf hRa hrow
 go_loopw [0,16,8] (fun lv iv _ wr => ∃ (i N:Nat) (va':Option Addr) (vc':Nat),i≤m∧iv = .int .i64 (i:Int)∧lv = .slice va' N vc'∧Hid ((l++Pa.flats (ts.take i)).length=N)∧Pa.Row B wr (.slice va' N vc') (l++Pa.flats (ts.take i))∧Pa.Gr w2 wr (Value.slice va L vc).ownBlock (Value.slice va' N vc').ownBlock) (fun _ iv _ _=>m - (intOf iv).toNat)
 case atStart=>exact ⟨0,L,va,vc,by omega,rfl,rfl,by rw [Hid,← HL.out];simp [Pa.flats],by simpa [Pa.flats] using hrow2,Pa.Gr.refl _ _⟩
 case round =>
  clear hrow2
  obtain ⟨i,N,va',vc',hi,rfl,rfl,HN,hrow,hGr⟩:=hrel
  have hBr:B≤wr.heap.size:=Nat.le_trans (Nat.le_trans hB hz) (Nat.le_trans (Nat.le_of_lt hsz2) hGr.1.size)
  by_cases hlt:i < m
  ·have hit:i < ts.length:=by omega
   obtain ⟨u,hu,hr⟩:=HRP.out wr _ hGr i hit
   obtain ⟨g,rfl,hc⟩:=HC.out wr _ hGr i u hu
   have hlv:=Mill.highs_at ts i hit
   have hfl:=Pa.flats_le ts (i+1)
   rw [Pa.flats_at ts i hit,List.length_append] at hfl
   have hfN:N=L+(Pa.flats (ts.take i)).length:=by rw [← HN.out,List.length_append,HL.out]
   have HI:Hid (Calls Tryz.prog 16 #[.slice va' N vc',u] wr fun e w' => ∃ (va2:Option Addr) (vc2 N2:Nat),e = .returned (.slice va2 N2 vc2)∧Hid ((l++Pa.flats (ts.take (i+1))).length=N2)∧Pa.Row B w' (.slice va2 N2 vc2) (l++Pa.flats (ts.take (i+1)))∧Pa.Gr wr w' (Value.slice va' N vc').ownBlock (Value.slice va2 N2 vc2).ownBlock):=by
    have h2:=ih ts[i] u wr P B va' vc' (l++Pa.flats (ts.take i)) (by omega) hP hBr hr (by rw [HN.out];exact hrow) (by rw [HN.out];omega)
    rw [HN.out] at h2
    refine h2.mono ?_
    rintro e w' ⟨va2,vc2,rfl,h3,h4⟩
    rw [HN.out] at h4
    rw [Pa.flats_at ts i hit,← List.append_assoc]
    exact ⟨va2,vc2,_,rfl,rfl,h3,h4⟩
   clear hr hu hlv hfl hfN
   go_wp2_with (go_at_call 16;refine HI.out.mono ?_;rintro e w3 ⟨va2,vc2,N2,rfl,HN2,hrow3,hGr3⟩)
   go_roundw
   case rel=>exact ⟨i+1,N2,va2,vc2,by omega,by go_num,rfl,HN2,hrow3,hGr.trans hGr3⟩
   case measure=>simp [intOf];omega
  ·have hie:i=m:=by omega
   subst hie
   have hT:ts.take i=ts:=List.take_of_length_le (by omega)
   rw [hT] at hrow HN
   have hN1:N+1≤1000000:=by rw [← HN.out,List.length_append,HL.out];omega
   have hndr:=(HP.out wr _ hGr w1.heap.size (.inr ⟨hz,Nat.le_refl _⟩)).trans hnd
   have q0:=Lib.cell_of_heap hndr (j:=0)
   have q1:=Lib.cell_of_heap hndr (j:=1)
   have q2:=Lib.cell_of_heap hndr (j:=2)
   have q3:=Lib.cell_of_heap hndr (j:=3)
   have q4:=Lib.cell_of_heap hndr (j:=4)
   have q5:=Lib.cell_of_heap hndr (j:=5)
   simp at q0 q1 q2 q3 q4 q5
   clear HRP HC HP hT
   go_wp2_with (refine Pa.wp_ndx rfl (.tmp 24) (.tmp 26) rfl ⟨c',o',t',y',x',k'⟩ rfl HN.out rfl (by rw [HN.out];exact hrow) hBr hN1 ?_;intro a3 c3 w3 hrow3 hGr3;rw [HN.out] at hGr3)
   go_ret
   unfold Pa.Listed
   rw [← List.append_assoc]
   refine ⟨a3,c3,by simp,hrow3, ?_⟩
   rw [HL.out]
   exact Pa.Gr.below hb02 (hGr.trans hGr3)
theorem Pa.list_next (n:Nat) (ih:Pa.ListTo n):Pa.ListTo (n+1):=by
 intro t v w P B va vc l ht hP hB hr hrow hll
 obtain ⟨d,ks⟩:=t
 rw [Mill.Rep] at hr
 obtain ⟨us,⟨h1,h2,X,rfl,hI⟩,hk,hl,hl2,hR⟩:=hr
 have hh:Mill.Tr.highs ks≤n:=by rw [Mill.Tr.high] at ht;omega
 have hPw:∀ g,P g→g < w.heap.size:=fun g h=>Nat.lt_of_lt_of_le (hP g h) hB
 obtain ⟨c,o,t,y,x,k⟩:=d
 simp only at h1 h2 hl ⊢
 rcases Mill.kind24 c h1 h2 with rfl | rfl | rfl | rfl | rfl | rfl | rfl | rfl | rfl | rfl | rfl | rfl | rfl | rfl | rfl | rfl | rfl | rfl | rfl | rfl | rfl | rfl | rfl | rfl
 ·exact Pa.listed_gen n ih _ _ Tryz.meth_intNode Tryz.cf_intNode ⟨1,o,t,y,x,k⟩ P ks us X w B va vc l hP hB hl2 (pt_1 o t y x k P us _ X w hPw hk hl hI) hR hh hrow hll
 ·exact Pa.listed_gen n ih _ _ Tryz.meth_textNode Tryz.cf_textNode ⟨2,o,t,y,x,k⟩ P ks us X w B va vc l hP hB hl2 (pt_2 o t y x k P us _ X w hPw hk hl hI) hR hh hrow hll
 ·exact Pa.listed_gen n ih _ _ Tryz.meth_boolNode Tryz.cf_boolNode ⟨3,o,t,y,x,k⟩ P ks us X w B va vc l hP hB hl2 (pt_3 o t y x k P us _ X w hPw hk hl hI) hR hh hrow hll
 ·exact Pa.listed_gen n ih _ _ Tryz.meth_nameNode Tryz.cf_nameNode ⟨4,o,t,y,x,k⟩ P ks us X w B va vc l hP hB hl2 (pt_4 o t y x k P us _ X w hPw hk hl hI) hR hh hrow hll
 ·exact Pa.listed_gen n ih _ _ Tryz.meth_unNode Tryz.cf_unNode ⟨5,o,t,y,x,k⟩ P ks us X w B va vc l hP hB hl2 (pt_5 o t y x k P us _ X w hPw hk hl hI) hR hh hrow hll
 ·exact Pa.listed_gen n ih _ _ Tryz.meth_binNode Tryz.cf_binNode ⟨6,o,t,y,x,k⟩ P ks us X w B va vc l hP hB hl2 (pt_6 o t y x k P us _ X w hPw hk hl hI) hR hh hrow hll
 ·exact Pa.listed_gen n ih _ _ Tryz.meth_callNode Tryz.cf_callNode ⟨7,o,t,y,x,k⟩ P ks us X w B va vc l hP hB hl2 (pt_7 o t y x k P us _ X w hPw hk hl hI) hR hh hrow hll
 ·exact Pa.listed_gen n ih _ _ Tryz.meth_builtNode Tryz.cf_builtNode ⟨8,o,t,y,x,k⟩ P ks us X w B va vc l hP hB hl2 (pt_8 o t y x k P us _ X w hPw hk hl hI) hR hh hrow hll
 ·exact Pa.listed_gen n ih _ _ Tryz.meth_convNode Tryz.cf_convNode ⟨9,o,t,y,x,k⟩ P ks us X w B va vc l hP hB hl2 (pt_9 o t y x k P us _ X w hPw hk hl hI) hR hh hrow hll
 ·exact Pa.listed_gen n ih _ _ Tryz.meth_letNode Tryz.cf_letNode ⟨10,o,t,y,x,k⟩ P ks us X w B va vc l hP hB hl2 (pt_10 o t y x k P us _ X w hPw hk hl hI) hR hh hrow hll
 ·exact Pa.listed_gen n ih _ _ Tryz.meth_setNode Tryz.cf_setNode ⟨11,o,t,y,x,k⟩ P ks us X w B va vc l hP hB hl2 (pt_11 o t y x k P us _ X w hPw hk hl hI) hR hh hrow hll
 ·exact Pa.listed_gen n ih _ _ Tryz.meth_ifNode Tryz.cf_ifNode ⟨12,o,t,y,x,k⟩ P ks us X w B va vc l hP hB hl2 (pt_12 o t y x k P us _ X w hPw hk hl hI) hR hh hrow hll
 ·exact Pa.listed_gen n ih _ _ Tryz.meth_whileNode Tryz.cf_whileNode ⟨13,o,t,y,x,k⟩ P ks us X w B va vc l hP hB hl2 (pt_13 o t y x k P us _ X w hPw hk hl hI) hR hh hrow hll
 ·exact Pa.listed_gen n ih _ _ Tryz.meth_breakNode Tryz.cf_breakNode ⟨14,o,t,y,x,k⟩ P ks us X w B va vc l hP hB hl2 (pt_14 o t y x k P us _ X w hPw hk hl hI) hR hh hrow hll
 ·exact Pa.listed_gen n ih _ _ Tryz.meth_continueNode Tryz.cf_continueNode ⟨15,o,t,y,x,k⟩ P ks us X w B va vc l hP hB hl2 (pt_15 o t y x k P us _ X w hPw hk hl hI) hR hh hrow hll
 ·exact Pa.listed_gen n ih _ _ Tryz.meth_returnNode Tryz.cf_returnNode ⟨16,o,t,y,x,k⟩ P ks us X w B va vc l hP hB hl2 (pt_16 o t y x k P us _ X w hPw hk hl hI) hR hh hrow hll
 ·exact Pa.listed_gen n ih _ _ Tryz.meth_failNode Tryz.cf_failNode ⟨17,o,t,y,x,k⟩ P ks us X w B va vc l hP hB hl2 (pt_17 o t y x k P us _ X w hPw hk hl hI) hR hh hrow hll
 ·exact Pa.listed_gen n ih _ _ Tryz.meth_writeNode Tryz.cf_writeNode ⟨18,o,t,y,x,k⟩ P ks us X w B va vc l hP hB hl2 (pt_18 o t y x k P us _ X w hPw hk hl hI) hR hh hrow hll
 ·exact Pa.listed_gen n ih _ _ Tryz.meth_sayNode Tryz.cf_sayNode ⟨19,o,t,y,x,k⟩ P ks us X w B va vc l hP hB hl2 (pt_19 o t y x k P us _ X w hPw hk hl hI) hR hh hrow hll
 ·exact Pa.listed_gen n ih _ _ Tryz.meth_doNode Tryz.cf_doNode ⟨20,o,t,y,x,k⟩ P ks us X w B va vc l hP hB hl2 (pt_20 o t y x k P us _ X w hPw hk hl hI) hR hh hrow hll
 ·exact Pa.listed_gen n ih _ _ Tryz.meth_blockNode Tryz.cf_blockNode ⟨21,o,t,y,x,k⟩ P ks us X w B va vc l hP hB hl2 (pt_21 o t y x k P us _ X w hPw hk hl hI) hR hh hrow hll
 ·exact Pa.listed_gen n ih _ _ Tryz.meth_paramNode Tryz.cf_paramNode ⟨22,o,t,y,x,k⟩ P ks us X w B va vc l hP hB hl2 (pt_22 o t y x k P us _ X w hPw hk hl hI) hR hh hrow hll
 ·exact Pa.listed_gen n ih _ _ Tryz.meth_fnNode Tryz.cf_fnNode ⟨23,o,t,y,x,k⟩ P ks us X w B va vc l hP hB hl2 (pt_23 o t y x k P us _ X w hPw hk hl hI) hR hh hrow hll
 ·exact Pa.listed_gen n ih _ _ Tryz.meth_programNode Tryz.cf_programNode ⟨24,o,t,y,x,k⟩ P ks us X w B va vc l hP hB hl2 (pt_24 o t y x k P us _ X w hPw hk hl hI) hR hh hrow hll
theorem Pa.list_to : ∀ n,Pa.ListTo n
 | 0=>fun t v w P B va vc l h=>by omega
 | n+1=>Pa.list_next n (Pa.list_to n)
theorem Pa.listed_any (t:Mill.Tr) (v:Value) (w:World) (B:Nat) (hB:B≤w.heap.size) (hr:Mill.Rep (fun b=>b < B) w t v) (hll:(Pa.flat t).length≤1000000) :
  Calls Tryz.prog 16 #[.slice none 0 0,v] w fun e w' => ∃ va vc,e = .returned (.slice va (Pa.flat t).length vc)∧Pa.Row B w' (.slice va (Pa.flat t).length vc) (Pa.flat t)∧Below w.heap.size w w':=by
 refine (Pa.list_to (t.high+1) t v w _ B none 0 [] (Nat.lt_succ_self _) (fun g h=>h) hB hr ⟨rfl,.inl ⟨rfl,rfl⟩⟩ (by simpa using hll)).mono ?_
 rintro e w' ⟨va,vc,h1,h2,h3⟩
 exact ⟨va,vc,h1,h2,⟨h3.1.os,h3.1.tape,h3.1.output,h3.1.size,fun i hi=>h3.1.block i hi (by simp [Value.ownBlock])⟩⟩
theorem Pa.setF {W:World} {n:Nat} {x0 x1 v0 v1:Value} (r0:W.cell? ⟨n,0,none⟩=some x0) (r1:W.cell? ⟨n,1,none⟩=some x1):((W.setCell ⟨n,0,none⟩ v0).setCell ⟨n,1,none⟩ v1).cell? ⟨n,0,none⟩=some v0∧((W.setCell ⟨n,0,none⟩ v0).setCell ⟨n,1,none⟩ v1).cell? ⟨n,1,none⟩=some v1:=by
 refine ⟨?_, ?_⟩
 ·rw [World.cell?_setCell_other _ _ _ _ (by simp)];exact World.cell?_setCell_same _ _ _ r0
 ·exact World.cell?_setCell_same _ _ _ (by rw [World.cell?_setCell_other _ _ _ _ (by simp)];exact r1)
theorem Pa.thrown_any (z0 z1:Int) (w:World) :
  Calls Tryz.prog 14 #[.iface 26 (.agg #[.int .i64 z0,.int .i64 z1])] w fun e w'=>e = .returned (.agg #[.int .i64 z0,.int .i64 z1])∧Below w.heap.size w w':=by
 have hta:∀ W,(Instr.typeAssert (.iface 26 (.agg #[.int .i64 z0,.int .i64 z1])) 20 26 false).run Tryz.prog W = .ok (.agg #[.int .i64 z0,.int .i64 z1]) W:=fun _=>by kernel_rfl
 obtain ⟨V0,hV0,hb,hs,c0,c1,ff⟩:=Pa.res_flt w
 obtain ⟨y0,y1⟩:=Pa.setF (v0:=.int .i64 z0) (v1:=.int .i64 z1) c0 c1
 go_enter Tryz.func14,Tryz.ntmps14
 go_wp2
 refine bodyPost_ret (v:=.agg #[.int .i64 z0,.int .i64 z1]) (by simp [results,Tryz.results14,go_sem,y0,y1]) rfl ⟨rfl, ?_⟩
 exact (hb.setCell (by simp) _).setCell (by simp) _
theorem Pa.catch_panic (b0 b1:Nat) (z0 z1:Int) (w:World) (a:Option Addr) (n c:Nat) (y0 y1:Int) (h0:w.cell? ⟨b0,0,none⟩=some (.slice a n c)) (h1:w.cell? ⟨b1,0,none⟩=some (.int .i64 y0)) (h2:w.cell? ⟨b1,1,none⟩=some (.int .i64 y1)) (f0:w.frozen? ⟨b0,0,none⟩=false) (f1:w.frozen? ⟨b1,0,none⟩=false) (f2:w.frozen? ⟨b1,1,none⟩=false) (hne:b0≠b1) :
  CallsD Tryz.prog 13 #[.pointer (some ⟨b0,0,none⟩),.pointer (some ⟨b1,0,none⟩)] (.panicking [{ v:=.iface 26 (.agg #[.int .i64 z0,.int .i64 z1]),recovered:=false }]) w fun e u' w' =>
   e = .returned (.tuple #[])∧u' = .panicking [{ v:=.iface 26 (.agg #[.int .i64 z0,.int .i64 z1]),recovered:=true }]∧∃ W,Below w.heap.size w W∧w'=((W.setCell ⟨b0,0,none⟩ (.slice none 0 0)).setCell ⟨b1,0,none⟩ (.int .i64 z0)).setCell ⟨b1,1,none⟩ (.int .i64 z1):=by
 have l0:=World.block_lt_of_cell? _ _ h0
 have l1:=World.block_lt_of_cell? _ _ h1
 refine callsD_of_wpS Tryz.func13 rfl fun c₀ cs hu => ?_
 apply wpS_seq
 apply wpS_region
 simp [wpOpsS,go_sem,recoverD,hu,Tryz.ntmps13,Exit.thenS]
 apply wpS_seq
 apply wpS_region
 simp [wpOpsS,go_sem,Exit.thenS]
 refine wpS_cond (t:=true) (by simp [Act.eval,Array.replicate]) ?_
 simp only [if_true]
 refine wpS_of_wp ?_
 go_wp2_with (go_at_call 14;refine (Pa.thrown_any _ _ _).mono ?_;rintro e W1 ⟨rfl,hW1⟩;have q0:=(hW1.cell (p:=⟨b0,0,none⟩) l0).trans h0;have q1:=(hW1.cell (p:=⟨b1,0,none⟩) l1).trans h1;have q2:=(hW1.cell (p:=⟨b1,1,none⟩) l1).trans h2;have g0:W1.frozen? ⟨b0,0,none⟩=false:=(by rw [World.frozen?_of_block (hW1.block b0 l0)];exact f0);have g1:W1.frozen? ⟨b1,0,none⟩=false:=(by rw [World.frozen?_of_block (hW1.block b1 l1)];exact f1);have g2:W1.frozen? ⟨b1,1,none⟩=false:=(by rw [World.frozen?_of_block (hW1.block b1 l1)];exact f2))
 simp [bodyPostS,results,Tryz.results13]
 exact ⟨W1,hW1,rfl⟩
theorem Pa.catch_idle (b0 b1:Nat) (w:World) :
  CallsD Tryz.prog 13 #[.pointer (some ⟨b0,0,none⟩),.pointer (some ⟨b1,0,none⟩)] .returning w fun e u' w'=>e = .returned (.tuple #[])∧u' = .returning∧w'=w:=by
 refine callsD_of_wpS Tryz.func13 rfl fun c₀ cs hu => ?_
 apply wpS_seq
 apply wpS_region
 simp [wpOpsS,go_sem,recoverD,hu,Tryz.ntmps13,Exit.thenS]
 apply wpS_seq
 apply wpS_region
 simp [wpOpsS,go_sem,Exit.thenS]
 refine wpS_cond (t:=false) (by simp [Act.eval,Array.replicate]) ?_
 simp only [Bool.false_eq_true,if_false]
 refine wpS_of_wp (wp_skip ?_)
 cases c₀
 simp_all [bodyPostS,results,Tryz.results13]
end Go.Proofs.YtlcckaffhnjneaaGreatDoor
