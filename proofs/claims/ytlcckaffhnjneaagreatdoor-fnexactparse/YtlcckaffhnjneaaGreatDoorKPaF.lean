import Derived.Test.YtlcckaffhnjneaaGreatDoorKPcB
import Derived.Maps.AppendAt
set_option maxRecDepth 100000
set_option maxHeartbeats 2000000
namespace Go.Proofs.YtlcckaffhnjneaaGreatDoor
open Go.RowKit
variable {ts:List (Mill.Piece × Nat)} {g:Nat} {a:Option Addr} {c:Nat} {s:Pa.S} {w:World}
def Pa.m2 (op:Nat):List UInt8:=Pa.marks2.getD (op - 1) []
def Pa.m1 (op:Nat):List UInt8:=if op=1 then [45] else if op=2 then [33] else [126]
theorem Pa.l2UnMark_any (op:Nat) (w:World) :
  Calls Tryz.prog 127 #[.int .i64 (op:Int)] w fun e w'=>e = .returned (.string ⟨(Pa.m1 op).toArray⟩)∧w=w':=by
 by_cases h1:op=1
 ·subst h1
  go_enter Tryz.func127,Tryz.ntmps127
  go_wp2
  go_ret
  exact ⟨rfl,rfl⟩
 ·by_cases h2:op=2
  ·subst h2
   go_enter Tryz.func127,Tryz.ntmps127
   go_wp2
   go_ret
   exact ⟨rfl,rfl⟩
  ·have e:Hid (Pa.m1 op=[126]):=by simp [Hid,Pa.m1,h1,h2]
   rw [e.out]
   have h1':¬ (op:Int)=1:=by omega
   have h2':¬ (op:Int)=2:=by omega
   go_enter Tryz.func127,Tryz.ntmps127
   go_wp2
   go_ret
   exact ⟨rfl,rfl⟩
theorem Pa.l2Mark_any (op:Nat) (h:1≤op∧op≤18) (w:World) :
  Calls Tryz.prog 128 #[.int .i64 (op:Int)] w fun e w'=>e = .returned (.tuple #[.string ⟨(Pa.m2 op).toArray⟩,.int .i64 (Pa.rk op:Int)])∧w=w':=by
 have h18:op=1∨op=2∨op=3∨op=4∨op=5∨op=6∨op=7∨op=8∨op=9∨op=10∨op=11∨op=12∨op=13∨op=14∨op=15∨op=16∨op=17∨op=18:=by omega
 rcases h18 with rfl | rfl | rfl | rfl | rfl | rfl | rfl | rfl | rfl | rfl | rfl | rfl | rfl | rfl | rfl | rfl | rfl | rfl
 all_goals
  go_enter Tryz.func128,Tryz.ntmps128
  go_wp2
  go_ret2
  exact ⟨rfl,rfl⟩
theorem Pa.mark_is (op R:Nat) (h:1≤op∧op≤18) (HR:Hid (Pa.rk op=R)) (w:World) :
  Calls Tryz.prog 128 #[.int .i64 (op:Int)] w fun e w'=>e = .returned (.tuple #[.string ⟨(Pa.m2 op).toArray⟩,.int .i64 (R:Int)])∧w=w':=by rw [← HR.out];exact Pa.l2Mark_any op h w
theorem Pa.mkL_step (r:Nat) (s:Pa.S) (op:Nat) (h:1≤op∧op≤18):Pa.mkL ts r s (Pa.marks2.drop (op - 1)) op=if Pa.rk op == r && Pa.is ts (Pa.m2 op) s then op else Pa.mkL ts r s (Pa.marks2.drop op) (op+1):=by
 have hl:op - 1 < Pa.marks2.length:=by simp [Pa.marks2];omega
 rw [List.drop_eq_getElem_cons hl,Pa.mkL,show op - 1+1=op by omega]
 have:Pa.m2 op=Pa.marks2[op - 1]:=by unfold Pa.m2;rw [List.getD_eq_getElem?_getD,List.getElem?_eq_getElem hl];rfl
 rw [this]
theorem Pa.is_opt {T:List UInt8} (h:Pa.is ts T s=true):Pa.opt ts T s=Pa.nx s:=by simp [Pa.opt,h]
theorem Pa.not_opt {T:List UInt8} (h:Pa.is ts T s=false):Pa.opt ts T s=s:=by simp [Pa.opt,h]
theorem Pa.mark_any (r:Nat) (_hr:1≤r∧r≤5) (hD:Pa.D ts g a c s w) :
  Calls Tryz.prog 110 #[.pointer (some ⟨g,0,none⟩),.int .i64 (r:Int)] w fun e w'=>e = .returned (.int .i64 (Pa.mk ts r s:Int))∧Pa.To ts g a c (if Pa.mk ts r s=0 then s else Pa.nx s) w w':=by
 obtain ⟨M,HM⟩:∃ M,Hid (Pa.mk ts r s=M):=⟨_,rfl⟩
 rw [HM.out]
 obtain ⟨S',HS⟩:∃ S',Hid ((if M=0 then s else Pa.nx s)=S'):=⟨_,rfl⟩
 rw [HS.out]
 go_enter Tryz.func110,Tryz.ntmps110
 go_wp2_with fail
 go_loopw [5] (fun v wr => ∃ op:Nat,1≤op∧op≤19∧v = .int .i64 (op:Int)∧Pa.D ts g a c s wr∧Pa.Fr g w wr∧Pa.mkL ts r s (Pa.marks2.drop (op - 1)) op=M) (fun v _=>20 - (intOf v).toNat)
 case atStart=>exact ⟨1,by omega,by omega,rfl,hD,Pa.Fr.refl _ _,HM.out⟩
 case round =>
  obtain ⟨op,h1,h19,rfl,hDr,hFr,hm⟩:=hrel
  have hw1:wrap64 ((op:Int)+1)=((op+1:Nat):Int):=by rw [wrap64];omega
  by_cases hle:op≤18
  ·have hlt:(op:Int)≤18:=by omega
   rw [Pa.mkL_step r s op ⟨h1,hle⟩] at hm
   by_cases hk:Pa.rk op=r
   ·cases hI:Pa.is ts (Pa.m2 op) s with
    | true =>
     have HMM:Hid (op=M):=by rw [Hid,← hm];simp [hk,hI]
     have HO:=Pa.is_opt hI
     go_wp2_with (first
      | (go_at_call 128;refine (Pa.l2Mark_any op ⟨h1,hle⟩ _).mono ?_;rintro e w' ⟨rfl,rfl⟩;rw [hk])
      | (go_at_call 25;refine (Pa.opt_any (Pa.m2 op) hDr).mono ?_;rintro e W ⟨rfl,hD2,hF2⟩;rw [hI]))
     go_ret
     refine ⟨congrArg (fun x:Nat=>Ending.returned (.int .i64 (x:Int))) HMM.out, ?_,hFr.trans hF2⟩
     rw [← HS.out,if_neg (by have:=HMM.out;omega),← HO];exact hD2
    | false =>
     have HMM:Hid (Pa.mkL ts r s (Pa.marks2.drop op) (op+1)=M):=by rw [Hid,← hm];simp [hI]
     have HO:=Pa.not_opt hI
     clear hm
     go_wp2_with (first
      | (go_at_call 128;refine (Pa.l2Mark_any op ⟨h1,hle⟩ _).mono ?_;rintro e w' ⟨rfl,rfl⟩;rw [hk])
      | (go_at_call 25;refine (Pa.opt_any (Pa.m2 op) hDr).mono ?_;rintro e W ⟨rfl,hD2,hF2⟩;rw [hI]))
     rw [HO] at hD2
     go_roundw
     case rel=>exact ⟨op+1,by omega,by omega,by simp,hD2,hFr.trans hF2,HMM.out⟩
     case measure=>simp [intOf];omega
   ·have HMM:Hid (Pa.mkL ts r s (Pa.marks2.drop op) (op+1)=M):=by rw [Hid,← hm];simp [hk]
    have hk2:((Pa.rk op:Int) == (r:Int))=false:=by simp;omega
    have hk3:¬ ((Pa.rk op:Int)=(r:Int)):=by omega
    clear hm hk
    obtain ⟨R,HR⟩:∃ R,Hid (Pa.rk op=R):=⟨_,rfl⟩
    rw [HR.out] at hk2 hk3
    go_wp2_with (go_at_call 128;refine (Pa.mark_is op R ⟨h1,hle⟩ HR _).mono ?_;rintro e w' ⟨rfl,rfl⟩)
    go_roundw
    case rel=>exact ⟨op+1,by omega,by omega,by simp,hDr,hFr,HMM.out⟩
    case measure=>simp [intOf];omega
  ·have h0:op=19:=by omega
   subst h0
   have HMM:Hid (0=M):=hm
   clear hm
   go_wp2_with fail
   go_ret
   refine ⟨by rw [← HMM.out];rfl, ?_,hFr⟩
   rw [← HS.out,if_pos HMM.out.symm];exact hDr
theorem Pa.own_keep {w w':World} {B e size n:Nat} {v:Value} {xs:List Value} (h:w.ownsRow B e size v n xs) (hk:∀ k,v.ownBlock=some k→B≤k→k < w.heap.size→w'.heap[k]? = w.heap[k]?):w'.ownsRow B e size v n xs:=by
 obtain ⟨h1,h2⟩:=h
 refine ⟨h1, ?_⟩
 rcases h2 with h2 | ⟨g,cap,cur,rfl,hB,hg,r⟩
 ·exact .inl h2
 ·exact .inr ⟨g,cap,cur,rfl,hB,(hk g rfl hB (Array.getElem?_eq_some_iff.1 hg).1).trans hg,r⟩
theorem Pa.row_type {w:World} {B e size n:Nat} {v:Value} {xs:List Value} (h:w.ownsRow B e size v n xs) {k:Nat} (hk:v.ownBlock=some k):(B≤k∧k < w.heap.size)∧∃ cur,w.heap[k]? = some (.cells cur e):=by
 rcases h.2 with ⟨rfl,h0⟩ | ⟨g,cap,cur,rfl,hb,hg,_⟩
 ·simp [Value.ownBlock] at hk
 ·have:g=k:=by simpa [Value.ownBlock] using hk
  subst this
  exact ⟨⟨hb,(Array.getElem?_eq_some_iff.1 hg).1⟩,cur,hg⟩
theorem Pa.own_mono {w:World} {A B e size n:Nat} {v:Value} {xs:List Value} (h:w.ownsRow B e size v n xs) (hA:A≤B):w.ownsRow A e size v n xs:=by
 obtain ⟨h1,h2⟩:=h
 refine ⟨h1, ?_⟩
 rcases h2 with h2 | ⟨g,cap,cur,rfl,hB,r⟩
 ·exact .inl h2
 ·exact .inr ⟨g,cap,cur,rfl,Nat.le_trans hA hB,r⟩
theorem Pa.rowLen {w:World} {B e size n:Nat} {v:Value} {xs:List Value} (h:w.ownsRow B e size v n xs):∃ a cap,v = .slice a n cap:=by
 rcases h.2 with ⟨rfl,h0⟩ | ⟨g,cap,cur,rfl,_⟩
 ·exact ⟨none,0,by rw [h0]⟩
 ·exact ⟨_,_,rfl⟩
theorem Pa.own_cells {w:World} {B e size n:Nat} {v:Value} {xs:List Value} (h:w.ownsRow B e size v n xs) {g:Nat} (hg:v.ownBlock=some g) (j:Nat) (u:Value) (hu:xs[j]? = some u):w.cell? ⟨g,j,none⟩=some u:=by
 rcases h.2 with ⟨rfl,h0⟩ | ⟨g',cap,cur,rfl,hb,hgg,h1,h2,h3,h4⟩
 ·simp [Value.ownBlock] at hg
 ·have:g'=g:=by simpa [Value.ownBlock] using hg
  subst this
  have hj:j < xs.length:=(List.getElem?_eq_some_iff.1 hu).1
  rw [← h4,List.getElem?_take_of_lt (by rw [h.1] at hj;exact hj)] at hu
  simpa [World.cell?,hgg] using hu
def Pa.Src (w:World) (ao:Option Addr) (m:Nat) (news:List Value):Prop:=0 < m→∃ ad,ao=some ad∧∀ j u,news[j]? = some u→w.cell? (ad.add j)=some u
theorem Pa.add_at (g j:Nat):(⟨g,0,none⟩:Addr).add j=⟨g,j,none⟩:=by unfold Addr.add;split <;> simp_all
theorem Pa.own_src {w:World} {B e size n:Nat} {a:Option Addr} {c:Nat} {xs:List Value} (h:w.ownsRow B e size (.slice a n c) n xs):Pa.Src w a n xs:=fun h0=>by
 rcases h.2 with ⟨he,h0'⟩ | ⟨g,cap,cur,he,_⟩
 ·injection he with e1 e2 e3;omega
 ·injection he with e1 e2 e3
  subst e1;subst e3
  refine ⟨⟨g,0,none⟩,rfl,fun j u hj => ?_⟩
  rw [Pa.add_at]
  exact Pa.own_cells h rfl j u hj
theorem Pa.run_append_zero {P:Program} {w:World} (base:Nat) (t ty e:TypeId) (i:TypeInfo) (size:Nat) (ht:P.underlying t=some (.slice e)) (hi:P.info? e=some i) (v:Value) (n:Nat) (xs:List Value) (hown:w.ownsRow base e size v n xs) (ao:Option Addr) (c:Nat) :
  (Builtin.append_ #[t,t] ty #[v,.slice ao 0 c]).run P w = .ok v w:=by
 rcases hown.2 with ⟨rfl,rfl⟩ | ⟨g,cap,cur,rfl,_,_,hnc,_⟩
 ·cases ao <;> simp [Builtin.append_,run_underlying ht,sizeOf,typeInfo,hi,Builtin.lenOf,Builtin.firstCells,loadCells,loadCellsFrom]
 ·cases ao <;> simp [Builtin.append_,run_underlying ht,sizeOf,typeInfo,hi,Builtin.lenOf,Builtin.firstCells,hnc,storeCells,loadCells,loadCellsFrom]
theorem Pa.run_append_any {P:Program} {w:World} (base:Nat) (t ty e:TypeId) (i:TypeInfo) (z:Value) (size bytes:Nat) (ht:P.underlying t=some (.slice e)) (hi:P.info? e=some i) (hz:i.zero=some z) (hsize:i.size=size) (hby:i.bytes=bytes) (hzs:z.cells.size=size) (hs0:0 < size)
  (v:Value) (n:Nat) (xs:List Value) (hown:w.ownsRow base e size v n xs) (ao:Option Addr) (m c:Nat) (news:List Value) (hlen:news.length=m * size) (hsrc:Pa.Src w ao m news) (h1c:∀ u ∈ news,u.oneCell'=true) (b1:n+m≤maxLen) (b2:(n+m) * bytes≤140737488355328) (hbase:base≤w.heap.size) :
  ∃ v' w',(Builtin.append_ #[t,t] ty #[v,.slice ao m c]).run P w = .ok v' w'∧w'.ownsRow base e size v' (n+m) (xs++news)∧w.grownBy w' v.ownBlock:=by
 by_cases h0:m=0
 ·subst h0
  have hn:news=[]:=List.eq_nil_of_length_eq_zero (by omega)
  subst hn
  refine ⟨v,w,Pa.run_append_zero base t ty e i size ht hi v n _ hown ao c, ?_,⟨rfl,rfl,rfl,Nat.le_refl _,fun _ _ _=>rfl⟩⟩
  simpa using hown
 ·obtain ⟨ad,rfl,hc⟩:=hsrc (by omega)
  obtain ⟨v',w',h1,h2,h3,_⟩:=run_append_own_at (P:=P) (w:=w) base t ty e i z size bytes ht hi hz hsize hby hzs hs0 v n xs hown ad m c news hlen hc h1c b1 b2 hbase
  exact ⟨v',w',h1,h2,h3⟩
theorem Pa.wp_append_any {P:Program} {w:World} {ops:Array Oper} {rest:List Oper} {o:Oper} {a:Act} {Q:Exit→Act→World→Prop} (hgd:o.guard=none) (s x:Operand) (t:TypeId)
  (ho:o.op = .call { callee:=.builtin .append,args := #[s,x],argTypes := #[t,t] }) (base:Nat) (e:TypeId) (i:TypeInfo) (z:Value) (size bytes:Nat) (ht:P.underlying t=some (.slice e)) (hi:P.info? e=some i) (hz:i.zero=some z) (hsize:i.size=size) (hby:i.bytes=bytes) (hzs:z.cells.size=size) (hs0:0 < size)
  (v:Value) (n:Nat) (xs:List Value) (hs:a.eval s=v) (hown:w.ownsRow base e size v n xs) (ao:Option Addr) (m c:Nat) (hx:a.eval x = .slice ao m c) (news:List Value) (hlen:news.length=m * size) (hsrc:Pa.Src w ao m news) (h1c:∀ u ∈ news,u.oneCell'=true) (b1:n+m≤maxLen) (b2:(n+m) * bytes≤140737488355328) (hbase:base≤w.heap.size)
  (h:∀ v' w',w'.ownsRow base e size v' (n+m) (xs++news)→w.grownBy w' v.ownBlock→wpList P ops Q rest (a.put o.dst v') w') :
  wpList P ops Q (o::rest) a w:=by
 refine wpList_plain hgd fun K hK => ?_
 obtain ⟨v',w',hr,h2,h3⟩:=Pa.run_append_any (P:=P) (w:=w) base t o.type e i z size bytes ht hi hz hsize hby hzs hs0 v n xs hown ao m c news hlen hsrc h1c b1 b2 hbase
 unfold Oper.wp execOp
 simp only [ho,resolve,invoke,builtin,Sem.run_bind,Sem.run_pure,Result.andThen_ok,List.map_toArray,List.map_cons,List.map_nil,hs,hx,hr]
 exact hK _ _ (h v' w' h2 h3)
theorem Pa.nd_one (l:List Mill.Nd):∀ u ∈ Mill.ndCs l,u.oneCell'=true:=fun u hu=>by
 obtain ⟨d,_,hd⟩:=List.mem_flatMap.1 hu
 unfold Mill.ndC at hd
 simp at hd
 rcases hd with rfl | rfl | rfl | rfl | rfl | rfl <;> rfl
theorem Pa.nd_len (l:List Mill.Nd):(Mill.ndCs l).length=l.length * 6:=by
 unfold Mill.ndCs
 induction l with
 | nil=>rfl
 | cons d l ih=>simp [List.flatMap_cons,ih,Mill.ndC];omega
theorem Tryz.infoNodeP : (Tryz.prog.info? 43).map (fun i=>(i.zero,i.size,i.bytes))=some (some (.agg #[.int .i64 0,.int .i64 0,.int .i64 0,.int .i64 0,.string ByteArray.empty,.int .i64 0]),6,56):=by kernel_rfl
abbrev Pa.Row (B:Nat) (w:World) (v:Value) (l:List Mill.Nd):Prop:=w.ownsRow B 43 6 v l.length (Mill.ndCs l)
theorem Pa.ndCs_app (l m:List Mill.Nd):Mill.ndCs (l++m)=Mill.ndCs l++Mill.ndCs m:=by simp [Mill.ndCs]
theorem Pa.fr_grown {g:Nat} {w w':World} {v:Value} {B e size n:Nat} {xs:List Value} {W:World} (h:Pa.Fr g W w) (ho:w.ownsRow B e size v n xs) (hB:W.heap.size≤B) (hg:w.grownBy w' v.ownBlock):Pa.Fr g W w':=by
 refine ⟨hg.os.trans h.os,hg.tape.trans h.tape,hg.output.trans h.output,Nat.le_trans h.size hg.size,fun k hk hkg => ?_⟩
 rw [hg.block k (Nat.lt_of_lt_of_le hk h.size) (fun e => ?_)]
 ·exact h.keep k hk hkg
 ·rcases ho.2 with ⟨rfl,_⟩ | ⟨b,cap,cur,rfl,hb,_⟩
  ·simp [Value.ownBlock] at e
  ·simp [Value.ownBlock] at e;omega
theorem Pa.D_grown {ts:List (Mill.Piece × Nat)} {g:Nat} {a:Option Addr} {c:Nat} {s:Pa.S} {w w':World} {v:Value} {B e size n:Nat} {xs:List Value} (h:Pa.D ts g a c s w) (ho:w.ownsRow B e size v n xs) (hB:g < B) (hg:w.grownBy w' v.ownBlock):Pa.D ts g a c s w':=by
 have hk:∀ k,k≤g→w'.heap[k]? = w.heap[k]?:=fun k hk=>hg.block k (Nat.lt_of_le_of_lt hk h.lt) (fun e=>by
  rcases ho.2 with ⟨rfl,_⟩ | ⟨b,cap,cur,rfl,hb,_⟩
  ·simp [Value.ownBlock] at e
  ·simp [Value.ownBlock] at e;omega)
 exact ⟨(hk g (Nat.le_refl _)).trans h.blk,h.tks.keep fun k hk'=>hk k (Nat.le_of_lt hk'),h.le,h.len,h.cap⟩
theorem Pa.wp_nds {w:World} {ops:Array Oper} {rest:List Oper} {o:Oper} {A:Act} {Q:Exit→Act→World→Prop} (hgd:o.guard=none) (s x:Operand)
  (ho:o.op = .call { callee:=.builtin .append,args := #[s,x],argTypes := #[22,22] }) {B B2 dc sc:Nat} {da sa:Option Addr} {l l2:List Mill.Nd} (hs:A.eval s = .slice da l.length dc) (hx:A.eval x = .slice sa l2.length sc) (h1:Pa.Row B w (.slice da l.length dc) l) (h2:Pa.Row B2 w (.slice sa l2.length sc) l2) (hB:B≤w.heap.size) (hK:l.length+l2.length≤1000000)
  (h:∀ a' c' w',Pa.Row B w' (.slice a' (l++l2).length c') (l++l2)→(∀ ts g a c st,Pa.D ts g a c st w→g < B→Pa.D ts g a c st w')→(∀ g W,Pa.Fr g W w→W.heap.size≤B→Pa.Fr g W w')→(w.heap.size≤w'.heap.size∧∀ k,k < B→k < w.heap.size→w'.heap[k]? = w.heap[k]?)→wpList Tryz.prog ops Q rest (A.put o.dst (.slice a' (l++l2).length c')) w') :
  wpList Tryz.prog ops Q (o::rest) A w:=by
 obtain ⟨i0,hi0,hy0,hy1,hy2⟩:=info_parts Tryz.infoNodeP
 refine Pa.wp_append_any hgd s x 22 ho B 43 i0 (.agg #[.int .i64 0,.int .i64 0,.int .i64 0,.int .i64 0,.string ByteArray.empty,.int .i64 0]) 6 56 Tryz.underlying22 hi0 hy0 hy1 hy2 rfl (by decide) _ _ _ hs h1 sa l2.length sc hx (Mill.ndCs l2) (Pa.nd_len l2) (Pa.own_src h2) (Pa.nd_one l2) (by unfold maxLen;omega) (by omega) hB ?_
 intro v' w' hown hg
 have hown':Pa.Row B w' v' (l++l2):=by
  unfold Pa.Row
  rw [Pa.ndCs_app,List.length_append];exact hown
 obtain ⟨a',c',rfl⟩:=Pa.rowLen hown'
 exact h a' c' w' hown' (fun ts g a c st hD hgB=>Pa.D_grown hD h1 hgB hg) (fun g W hF hW=>Pa.fr_grown hF h1 hW hg) ⟨hg.size,fun k hk hkw=>hg.block k hkw (fun e=>by
  rcases h1.2 with ⟨he,_⟩ | ⟨b,cap,cur,he,hb,_⟩
  ·rw [he] at e;simp [Value.ownBlock] at e
  ·rw [he] at e;simp [Value.ownBlock] at e;omega)⟩
theorem Pa.wp_nds2 {w:World} {ops:Array Oper} {rest:List Oper} {o:Oper} {A:Act} {Q:Exit→Act→World→Prop} (hgd:o.guard=none) (s x:Operand)
  (ho:o.op = .call { callee:=.builtin .append,args := #[s,x],argTypes := #[22,22] }) {B B2 dc sc n:Nat} {da sa:Option Addr} {l l2:List Mill.Nd} (hs:A.eval s = .slice da n dc) (hn:l.length=n) (hx:A.eval x = .slice sa l2.length sc) (h1:Pa.Row B w (.slice da l.length dc) l) (h2:Pa.Row B2 w (.slice sa l2.length sc) l2) (hB:B≤w.heap.size) (hK:l.length+l2.length≤1000000)
  (h:∀ a' c' w',Pa.Row B w' (.slice a' (l++l2).length c') (l++l2)→(∀ ts g a c st,Pa.D ts g a c st w→g < B→Pa.D ts g a c st w')→(∀ g W,Pa.Fr g W w→W.heap.size≤B→Pa.Fr g W w')→(w.heap.size≤w'.heap.size∧∀ k,k < B→k < w.heap.size→w'.heap[k]? = w.heap[k]?)→wpList Tryz.prog ops Q rest (A.put o.dst (.slice a' (l++l2).length c')) w') :
  wpList Tryz.prog ops Q (o::rest) A w:=by subst hn;exact Pa.wp_nds hgd s x ho hs hx h1 h2 hB hK h
theorem Pa.new_nds (w:World) (B:Nat) (hB:B≤w.heap.size) (l:List Mill.Nd) (hl:l.length≤1000000) (cs:Array Value) (h:cs.toList=Mill.ndCs l):Pa.Row B (w.alloc (.cells cs 43)) (.slice (some ⟨w.heap.size,0,none⟩) l.length l.length) l:=by
 have hc:cs.size=l.length * 6:=by rw [← Array.length_toList,h,Pa.nd_len]
 refine ⟨Pa.nd_len l,.inr ⟨w.heap.size,l.length,cs,rfl,hB,heap_alloc_new w _,Nat.le_refl _,by unfold maxLen;omega,hc, ?_⟩⟩
 rw [← h];exact List.take_of_length_le (by rw [Array.length_toList,hc];exact Nat.le_refl _)
theorem Pa.wp_nd {w:World} {ops:Array Oper} {rest:List Oper} {o:Oper} {A:Act} {Q:Exit→Act→World→Prop} (hgd:o.guard=none) (s x:Operand)
  (ho:o.op = .call { callee:=.builtin .append,args := #[s,x],argTypes := #[22,22] }) {B dc n:Nat} {da:Option Addr} {l:List Mill.Nd} (d:Mill.Nd) (hs:A.eval s = .slice da n dc) (hn:l.length=n) (hx:A.eval x = .slice (some ⟨w.heap.size,0,none⟩) 1 1) (h1:Pa.Row B w (.slice da l.length dc) l) (hB:B≤w.heap.size) (hK:n+1≤1000000)
  (h:∀ a' c' w',Pa.Row B w' (.slice a' (l++[d]).length c') (l++[d])→(∀ ts g a c st,Pa.D ts g a c st w→g < B→Pa.D ts g a c st w')→(∀ g W,Pa.Fr g W w→W.heap.size≤B→Pa.Fr g W w')→(w.heap.size≤w'.heap.size∧∀ k,k < B→k < w.heap.size→w'.heap[k]? = w.heap[k]?)→wpList Tryz.prog ops Q rest (A.put o.dst (.slice a' (l++[d]).length c')) w') :
  wpList Tryz.prog ops Q (o::rest) A (w.alloc (.cells #[.int .i64 d.kind,.int .i64 d.op,.int .i64 d.type,.int .i64 d.n,.string d.text,.int .i64 d.kids] 43)):=by
 subst hn
 have hb:Below w.heap.size w (w.alloc (.cells #[.int .i64 d.kind,.int .i64 d.op,.int .i64 d.type,.int .i64 d.n,.string d.text,.int .i64 d.kids] 43)):=(Below.refl _ _).alloc (Nat.le_refl _) _
 have h2:=Pa.new_nds w B hB [d] (by simp) #[.int .i64 d.kind,.int .i64 d.op,.int .i64 d.type,.int .i64 d.n,.string d.text,.int .i64 d.kids] rfl
 refine Pa.wp_nds (l:=l) (l2:=[d]) hgd s x ho hs hx (Mill.own_below h1 hb) h2 (by simp only [World.size_alloc];omega) hK ?_
 intro a' c' w' hr hDg hFg hsz
 exact h a' c' w' hr (fun ts g a c st hD hg=>hDg ts g a c st (hD.below hb) hg) (fun g W hF hW=>hFg g W (hF.trans (Pa.Fr.of_below hb)) hW) ⟨by have:=hsz.1;simp only [World.size_alloc] at this;omega,fun k hk hkw=>(hsz.2 k hk (by simp only [World.size_alloc];omega)).trans (hb.block k hkw)⟩
variable {ts:List (Mill.Piece × Nat)} {g:Nat} {a:Option Addr} {c:Nat} {s:Pa.S} {w:World}
def Pa.Out (ts:List (Mill.Piece × Nat)) (g:Nat) (a:Option Addr) (c:Nat) (R:Pa.Nds × Pa.S) (w:World) (e:Ending) (w':World):Prop :=
 ∃ va vc,e = .returned (.slice va R.1.length vc)∧Pa.Row w.heap.size w' (.slice va R.1.length vc) R.1∧Pa.To ts g a c R.2 w w'
def Pa.ExprIs (ts:List (Mill.Piece × Nat)) (g:Nat) (a:Option Addr) (c:Nat) (n:Nat):Prop := ∀ (r:Nat) (s:Pa.S) (w:World) (R:Pa.Nds × Pa.S),1≤r→r≤6→Pa.expr ts n r s=some R→R.1.length≤1000000→Pa.D ts g a c s w →
 Calls Tryz.prog 81 #[.pointer (some ⟨g,0,none⟩),.int .i64 (r:Int)] w (Pa.Out ts g a c R w)
theorem Pa.exprsL_len : ∀ (m k:Nat) (l:Pa.Nds) (s:Pa.S) (R:Pa.Nds × Nat × Pa.S),Pa.exprsL ts m k l s=some R→l.length≤R.1.length∧k≤R.2.1
 | 0,k,l,s,R,h=>by simp [Pa.exprsL] at h
 | m+1,k,l,s,R,h=>by
  rw [Pa.exprsL] at h
  split at h
  ·simp at h;subst h;simp
  ·split at h
   ·simp at h
   ·rename_i r hr
    split at h
    ·have:=Pa.exprsL_len m _ _ _ R h
     simp at this ⊢;omega
    ·simp at h;subst h;simp
theorem Pa.exprs_any (n:Nat) (ih:∀ m,m≤n→Pa.ExprIs ts g a c m) (R:Pa.Nds × Nat × Pa.S) (hR:Pa.exprs ts (n+1) s=some R) (hl:R.1.length≤1000000) (hk:R.2.1≤1000000) (hD:Pa.D ts g a c s w) :
  Calls Tryz.prog 82 #[.pointer (some ⟨g,0,none⟩)] w fun e w' => ∃ va vc,e = .returned (.tuple #[.slice va R.1.length vc,.int .i64 (R.2.1:Int)])∧Pa.Row w.heap.size w' (.slice va R.1.length vc) R.1∧Pa.To ts g a c R.2.2 w w':=by
 have hgw:=hD.lt
 obtain ⟨W0,hW0⟩:∃ W,w.alloc (.cells #[] 43)=W:=⟨_,rfl⟩
 have hr0:Pa.Row w.heap.size W0 (.slice (some ⟨w.heap.size,0,none⟩) 0 0) []:=by rw [← hW0];exact Pa.new_nds w _ (Nat.le_refl _) [] (by simp) #[] rfl
 have hB0:Below w.heap.size w W0:=by rw [← hW0];exact (Below.refl _ _).alloc (Nat.le_refl _) _
 have hD0:=hD.below hB0
 have hF0:Pa.Fr g w W0:=Pa.Fr.of_below hB0
 rw [Pa.exprs] at hR
 cases hI:Pa.is ts [41] s with
 | true =>
  rw [hI] at hR
  simp only [if_true,Option.some.injEq] at hR
  subst hR
  have HO:=Pa.is_opt hI
  go_enter Tryz.func82,Tryz.ntmps82
  go_wp2_with (first | (go_at_call 25;refine (Pa.opt_any [41] hD0).mono ?_;rintro e W1 ⟨rfl,hD1,hF1⟩;rw [hI]))
  refine bodyPost_ret (v:=.tuple #[.slice (some ⟨w.heap.size,0,none⟩) 0 0,.int .i64 0]) (by simp [results,Tryz.results82,go_sem]) rfl ?_
  exact ⟨_,_,rfl,hF1.own hr0 hgw,by rw [← HO];exact hD1,hF0.trans hF1⟩
 | false =>
  rw [hI] at hR
  simp only [Bool.false_eq_true,if_false,Option.map_eq_some_iff] at hR
  obtain ⟨RL,hRL,rfl⟩:=hR
  have HO:=Pa.not_opt hI
  have HRL:Hid (Pa.exprsL ts n 0 [] s=some RL):=hRL
  simp only at hl hk ⊢
  clear hRL
  go_enter Tryz.func82,Tryz.ntmps82
  go_wp2_with (first | (go_at_call 25;refine (Pa.opt_any [41] hD0).mono ?_;rintro e W1 ⟨rfl,hD1,hF1⟩;rw [hI]))
  rw [HO] at hD1
  have hr1:=hF1.own hr0 hgw
  have hF01:=hF0.trans hF1
  go_loopw [4,5] (fun ov kv wr => ∃ (m k:Nat) (l:Pa.Nds) (s':Pa.S) (oa:Option Addr) (oc:Nat),m≤n∧ov = .slice oa l.length oc∧kv = .int .i64 (k:Int)∧Pa.Row w.heap.size wr (.slice oa l.length oc) l∧Pa.D ts g a c s' wr∧Pa.Fr g w wr∧Pa.exprsL ts m k l s'=some RL∧k≤n - m) (fun _ kv _=>n+1 - (intOf kv).toNat)
  case atStart=>exact ⟨n,0,[],s,_,_,Nat.le_refl _,rfl,rfl,hr1,hD1,hF01,HRL.out,by omega⟩
  case round =>
   obtain ⟨m,k,l,s',oa,oc,hm,rfl,rfl,hrw,hDr,hFr,hL,hkm⟩:=hrel
   obtain ⟨m,rfl⟩:∃ m',m=m'+1:=by
    cases m with
    | zero=>simp [Pa.exprsL] at hL
    | succ m=>exact ⟨m,rfl⟩
   have hlen:=Pa.exprsL_len _ _ _ _ _ hL
   rw [Pa.exprsL] at hL
   obtain ⟨c0,c1,c2,f1,f2⟩:=hDr.cells
   cases hb:s'.bad with
   | true =>
    rw [hb] at hL c2
    simp only [if_true,Option.some.injEq] at hL
    subst hL
    clear hb
    go_wp2_with (first | (go_at_call 23;refine (Pa.need_any [41] hDr).mono ?_;rintro e W5 ⟨rfl,hD5,hF5⟩))
    refine bodyPost_ret (v:=.tuple #[.slice oa l.length oc,.int .i64 (k:Int)]) (by simp [results,Tryz.results82,go_sem]) rfl ?_
    exact ⟨_,_,rfl,hF5.own hrw hgw,hD5,hFr.trans hF5⟩
   | false =>
    rw [hb] at hL c2
    simp only [Bool.false_eq_true,if_false] at hL
    clear hb
    cases hE:Pa.expr ts m 1 s' with
    | none=>rw [hE] at hL;simp at hL
    | some r =>
     rw [hE] at hL
     simp only at hL
     have hwk:wrap64 ((k:Int)+1)=(k:Int)+1:=by rw [wrap64];omega
     cases hI2:Pa.is ts [44] r.2 with
     | true =>
      rw [hI2] at hL
      simp only [if_true] at hL
      have hlen2:=Pa.exprsL_len _ _ _ _ _ hL
      simp only [List.length_append] at hlen2
      have hb1:r.1.length≤1000000:=by omega
      have hb2:l.length+r.1.length≤1000000:=by omega
      have HO2:=Pa.is_opt hI2
      have HE:=ih m (by omega) 1 s' wr r (by omega) (by omega) hE hb1 hDr
      have HL:Hid (Pa.exprsL ts m (k+1) (l++r.1) (Pa.nx r.2)=some RL):=hL
      clear hL hE hlen hlen2
      go_wp2_with (first
       | (go_at_call 81;refine HE.mono ?_;rintro e W2 ⟨va,vc,rfl,hr2,hD2,hF2⟩;have hr1':=hF2.own hrw hgw;have hs2:=hF2.size)
       | (at_builtin;refine Pa.wp_nds rfl _ _ rfl rfl rfl hr1' hr2 (by have:=hFr.size;omega) hb2 ?_;intro a' c' W3 hr3 hDg hFg hsz;have hD3:=hDg _ _ _ _ _ hD2 hgw;have hF3:=hFg g w (hFr.trans hF2) (Nat.le_refl _);clear hDg hFg hr1' hr2)
       | (go_at_call 25;refine (Pa.opt_any [44] hD3).mono ?_;rintro e W4 ⟨rfl,hD4,hF4⟩;rw [hI2]))
      exact ⟨⟨m,k+1,l++r.1,Pa.nx r.2,a',c',by omega,by simp,by simp,hF4.own hr3 hgw,by rw [← HO2];exact hD4,hF3.trans hF4,HL.out,by omega⟩,by simp [intOf];omega⟩
     | false =>
      rw [hI2] at hL
      simp only [Bool.false_eq_true,if_false,Option.some.injEq] at hL
      subst hL
      simp only [List.length_append] at hl hk hlen ⊢
      have hb1:r.1.length≤1000000:=by omega
      have HO2:=Pa.not_opt hI2
      have HE:=ih m (by omega) 1 s' wr r (by omega) (by omega) hE hb1 hDr
      clear hE hlen
      go_wp2_with (first
       | (go_at_call 81;refine HE.mono ?_;rintro e W2 ⟨va,vc,rfl,hr2,hD2,hF2⟩;have hr1':=hF2.own hrw hgw;have hs2:=hF2.size)
       | (at_builtin;refine Pa.wp_nds rfl _ _ rfl rfl rfl hr1' hr2 (by have:=hFr.size;omega) hl ?_;intro a' c' W3 hr3 hDg hFg hsz;have hD3:=hDg _ _ _ _ _ hD2 hgw;have hF3:=hFg g w (hFr.trans hF2) (Nat.le_refl _);clear hDg hFg hr1' hr2)
       | (go_at_call 25;refine (Pa.opt_any [44] hD3).mono ?_;rintro e W4 ⟨rfl,hD4,hF4⟩;rw [hI2];rw [HO2] at hD4)
       | (go_at_call 23;refine (Pa.need_any [41] hD4).mono ?_;rintro e W5 ⟨rfl,hD5,hF5⟩))
      refine bodyPost_ret (v:=.tuple #[.slice a' (l.length+r.1.length) c',.int .i64 ((k:Int)+1)]) (by simp [results,Tryz.results82,go_sem]) rfl ?_
      exact ⟨a',c',by simp,by rw [← List.length_append];exact hF5.own (hF4.own hr3 hgw) hgw,hD5,(hF3.trans hF4).trans hF5⟩
variable {ts:List (Mill.Piece × Nat)} {g:Nat} {a:Option Addr} {c:Nat} {s:Pa.S} {w:World}
theorem Pa.builtL_len : ∀ (m k j:Nat) (l:Pa.Nds) (s:Pa.S) (R:Pa.Nds × Pa.S),Pa.builtL ts m k j l s=some R→l.length≤R.1.length
 | 0,k,j,l,s,R,h=>by simp [Pa.builtL] at h
 | m+1,k,j,l,s,R,h=>by
  rw [Pa.builtL] at h
  split at h
  ·split at h
   ·simp at h
   ·have:=Pa.builtL_len m _ _ _ _ R h
    simp at this ⊢;omega
  ·simp at h;subst h;simp
theorem Pa.built_any (n:Nat) (ih:∀ m,m≤n→Pa.ExprIs ts g a c m) (K:Nat) (hK:K≤3) (R:Pa.Nds × Pa.S) (hR:Pa.built ts (n+1) K s=some R) (hl:R.1.length≤1000000) (hD:Pa.D ts g a c s w) :
  Calls Tryz.prog 139 #[.pointer (some ⟨g,0,none⟩),.int .i64 (K:Int)] w (Pa.Out ts g a c R w):=by
 have hgw:=hD.lt
 obtain ⟨W0,hW0⟩:∃ W,w.alloc (.cells #[] 43)=W:=⟨_,rfl⟩
 have hr0:Pa.Row w.heap.size W0 (.slice (some ⟨w.heap.size,0,none⟩) 0 0) []:=by rw [← hW0];exact Pa.new_nds w _ (Nat.le_refl _) [] (by simp) #[] rfl
 have hB0:Below w.heap.size w W0:=by rw [← hW0];exact (Below.refl _ _).alloc (Nat.le_refl _) _
 have hD0:=hD.below hB0
 have hF0:Pa.Fr g w W0:=Pa.Fr.of_below hB0
 rw [Pa.built,Option.map_eq_some_iff] at hR
 obtain ⟨RL,hRL,rfl⟩:=hR
 have HRL:Hid (Pa.builtL ts n K 0 [] (Pa.need ts [40] s)=some RL):=hRL
 simp only at hl ⊢
 clear hRL
 go_enter Tryz.func139,Tryz.ntmps139
 go_wp2_with (first | (go_at_call 23;refine (Pa.need_any [40] hD0).mono ?_;rintro e W1 ⟨rfl,hD1,hF1⟩))
 have hr1:=hF1.own hr0 hgw
 have hF01:=hF0.trans hF1
 go_loopw [5,6] (fun ov kv wr => ∃ (m k:Nat) (l:Pa.Nds) (s':Pa.S) (oa:Option Addr) (oc:Nat),m≤n∧k≤K∧ov = .slice oa l.length oc∧kv = .int .i64 (k:Int)∧Pa.Row w.heap.size wr (.slice oa l.length oc) l∧Pa.D ts g a c s' wr∧Pa.Fr g w wr∧Pa.builtL ts m K k l s'=some RL) (fun _ kv _=>K+1 - (intOf kv).toNat)
 case atStart=>exact ⟨n,0,[],_,_,_,Nat.le_refl _,by omega,rfl,rfl,hr1,hD1,hF01,HRL.out⟩
 case round =>
  obtain ⟨m,k,l,s',oa,oc,hm,hkK,rfl,rfl,hrw,hDr,hFr,hL⟩:=hrel
  obtain ⟨m,rfl⟩:∃ m',m=m'+1:=by
   cases m with
   | zero=>simp [Pa.builtL] at hL
   | succ m=>exact ⟨m,rfl⟩
  have hlen:=Pa.builtL_len _ _ _ _ _ _ hL
  rw [Pa.builtL] at hL
  obtain ⟨c0,c1,c2,f1,f2⟩:=hDr.cells
  by_cases hgo:k < K∧s'.bad=false
  ·rw [if_pos hgo] at hL
   have hb:=hgo.2
   rw [hb] at c2
   have hkI:(k:Int) < (K:Int):=by omega
   have hwk:wrap64 ((k:Int)+1)=(k:Int)+1:=by rw [wrap64];omega
   cases hE:Pa.expr ts m 1 (if 0 < k then Pa.need ts [44] s' else s') with
   | none=>rw [hE] at hL;simp at hL
   | some r =>
    rw [hE] at hL
    simp only at hL
    have hlen2:=Pa.builtL_len _ _ _ _ _ _ hL
    simp only [List.length_append] at hlen2
    have hb1:r.1.length≤1000000:=by omega
    have hb2:l.length+r.1.length≤1000000:=by omega
    have HL:Hid (Pa.builtL ts m K (k+1) (l++r.1) r.2=some RL):=hL
    by_cases hk0:0 < k
    ·rw [if_pos hk0] at hE
     have hk0':(0:Int) < (k:Int):=by omega
     have HE:Hid (∀ W,Pa.D ts g a c (Pa.need ts [44] s') W→Calls Tryz.prog 81 #[.pointer (some ⟨g,0,none⟩),.int .i64 ((1:Nat):Int)] W (Pa.Out ts g a c r W)):=fun W hW=>ih m (by omega) 1 _ W r (by omega) (by omega) hE hb1 hW
     clear hL hE hlen hlen2 hgo hb
     go_wp2_with (first
      | (go_at_call 23;refine (Pa.need_any [44] hDr).mono ?_;rintro e W2 ⟨rfl,hD2,hF2⟩;have hr2:=hF2.own hrw hgw;have hF02:=hFr.trans hF2)
      | (go_at_call 81;refine (HE.out _ hD2).mono ?_;rintro e W3 ⟨va,vc,rfl,hr3,hD3,hF3⟩;have hr2':=hF3.own hr2 hgw;have hs3:=hF3.size)
      | (at_builtin;refine Pa.wp_nds rfl _ _ rfl rfl rfl hr2' hr3 (by have:=hF02.size;omega) hb2 ?_;intro a' c' W4 hr4 hDg hFg hsz;have hD4:=hDg _ _ _ _ _ hD3 hgw;have hF4:=hFg g w (hF02.trans hF3) (Nat.le_refl _);clear hDg hFg hr2' hr3))
     exact ⟨⟨m,k+1,l++r.1,r.2,a',c',by omega,by omega,by simp,by simp,hr4,hD4,hF4,HL.out⟩,by simp [intOf];try omega⟩
    ·rw [if_neg hk0] at hE
     have hk0':k=0:=by omega
     subst hk0'
     have HE:Hid (∀ W,Pa.D ts g a c s' W→Calls Tryz.prog 81 #[.pointer (some ⟨g,0,none⟩),.int .i64 ((1:Nat):Int)] W (Pa.Out ts g a c r W)):=fun W hW=>ih m (by omega) 1 _ W r (by omega) (by omega) hE hb1 hW
     have hKp:0 < K:=by omega
     clear hL hE hlen hlen2 hgo hb
     go_wp2_with (first
      | (go_at_call 81;refine (HE.out _ hDr).mono ?_;rintro e W3 ⟨va,vc,rfl,hr3,hD3,hF3⟩;have hr2':=hF3.own hrw hgw;have hs3:=hF3.size)
      | (at_builtin;refine Pa.wp_nds rfl _ _ rfl rfl rfl hr2' hr3 (by have:=hFr.size;omega) hb2 ?_;intro a' c' W4 hr4 hDg hFg hsz;have hD4:=hDg _ _ _ _ _ hD3 hgw;have hF4:=hFg g w (hFr.trans hF3) (Nat.le_refl _);clear hDg hFg hr2' hr3))
     exact ⟨⟨m,1,l++r.1,r.2,a',c',by omega,by omega,by simp,by simp,hr4,hD4,hF4,HL.out⟩,by simp [intOf];try omega⟩
  ·rw [if_neg hgo] at hL
   simp only [Option.some.injEq] at hL
   subst hL
   by_cases hkk:k < K
   ·have hb:s'.bad=true:=by
     cases hb:s'.bad with
     | true=>rfl
     | false=>exact absurd ⟨hkk,hb⟩ hgo
    rw [hb] at c2
    have hkI:(k:Int) < (K:Int):=by omega
    clear hgo hb
    go_wp2_with (first | (go_at_call 23;refine (Pa.need_any [41] hDr).mono ?_;rintro e W5 ⟨rfl,hD5,hF5⟩))
    go_ret
    exact ⟨_,_,rfl,hF5.own hrw hgw,hD5,hFr.trans hF5⟩
   ·have hkI:¬ (k:Int) < (K:Int):=by omega
    clear hgo
    go_wp2_with (first | (go_at_call 23;refine (Pa.need_any [41] hDr).mono ?_;rintro e W5 ⟨rfl,hD5,hF5⟩))
    go_ret
    exact ⟨_,_,rfl,hF5.own hrw hgw,hD5,hFr.trans hF5⟩
end Go.Proofs.YtlcckaffhnjneaaGreatDoor
