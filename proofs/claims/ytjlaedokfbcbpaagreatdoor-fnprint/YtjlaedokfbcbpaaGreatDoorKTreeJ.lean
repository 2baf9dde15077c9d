import Derived.Test.YtjlaedokfbcbpaaGreatDoorKTreeH
set_option maxRecDepth 100000
set_option maxHeartbeats 4000000
namespace Go.Proofs.YtjlaedokfbcbpaaGreatDoor
open Go.RowKit Proofs.Tryz
inductive Aa where
 | node:Ae->List Aa->Aa
def Aa.nd : Aa->Ae
 | .node d _=>d
def Aa.kids : Aa->List Aa
 | .node _ ks=>ks
mutual
def Aa.high : Aa->Nat
 | .node _ ks=>Aa.highs ks
def Aa.highs : List Aa->Nat
 | []=>0
 | t::r=>max (Aa.high t+1) (Aa.highs r)
end
def A9 (k:Int):TypeId:=if k=1 then 171 else if k=2 then 173 else if k=3 then 175 else if k=4 then 177 else if k=5 then 179 else if k=6 then 181 else if k=7 then 183 else if k=8 then 188 else if k=9 then 190 else if k=10 then 192 else if k=11 then 193 else if k=12 then 205 else if k=13 then 207 else if k=14 then 195 else if k=15 then 196 else if k=16 then 198 else if k=17 then 200 else if k=18 then 202 else if k=19 then 203 else if k=20 then 209 else if k=21 then 51 else if k=22 then 94 else if k=23 then 53 else 40
theorem N4 (k:Int) (h1:1<=k) (h2:k<=24):k=1\/k=2\/k=3\/k=4\/k=5\/k=6\/k=7\/k=8\/k=9\/k=10\/k=11\/k=12\/k=13\/k=14\/k=15\/k=16\/k=17\/k=18\/k=19\/k=20\/k=21\/k=22\/k=23\/k=24:=OC
theorem Gb {T t:TypeId} {zv x:Value} {w:World} (z:(do pure (Value.tuple #[<- zeroValue T,.bool false]):Sem Value).run prog w = .ok (.tuple #[zv,.bool false]) w:=by kernel_rfl) (e:(Instr.typeAssert (.iface t x) 86 T true).run prog w=(if t=T then (pure (Value.tuple #[x,.bool true]):Sem Value) else (do pure (Value.tuple #[<- zeroValue T,.bool false]))).run prog w:=by kernel_rfl):(Instr.typeAssert (.iface t x) 86 T true).run prog w = .ok (if t=T then .tuple #[x,.bool true] else .tuple #[zv,.bool false]) w:=by
 rw[e];by_cases h:t=T
 ·rw[if_pos h,if_pos h];rfl
 ·rw[if_neg h,if_neg h];exact z
theorem Tryz.ta_intNode (t:TypeId) (x:Value) (w:World):(Instr.typeAssert (.iface t x) 86 171 true).run prog w = .ok (if t=171 then .tuple #[x,.bool true] else .tuple #[.agg #[.int .i64 0,.int .i64 0],.bool false]) w:=Gb
theorem Tryz.ta_textNode (t:TypeId) (x:Value) (w:World):(Instr.typeAssert (.iface t x) 86 173 true).run prog w = .ok (if t=173 then .tuple #[x,.bool true] else .tuple #[.agg #[.string ByteArray.empty],.bool false]) w:=Gb
theorem Tryz.ta_boolNode (t:TypeId) (x:Value) (w:World):(Instr.typeAssert (.iface t x) 86 175 true).run prog w = .ok (if t=175 then .tuple #[x,.bool true] else .tuple #[.agg #[.bool false],.bool false]) w:=Gb
theorem Tryz.ta_nameNode (t:TypeId) (x:Value) (w:World):(Instr.typeAssert (.iface t x) 86 177 true).run prog w = .ok (if t=177 then .tuple #[x,.bool true] else .tuple #[.agg #[.string ByteArray.empty],.bool false]) w:=Gb
theorem Tryz.ta_unNode (t:TypeId) (x:Value) (w:World):(Instr.typeAssert (.iface t x) 86 179 true).run prog w = .ok (if t=179 then .tuple #[x,.bool true] else .tuple #[.agg #[.int .i64 0,.nilIface],.bool false]) w:=Gb
theorem Tryz.ta_binNode (t:TypeId) (x:Value) (w:World):(Instr.typeAssert (.iface t x) 86 181 true).run prog w = .ok (if t=181 then .tuple #[x,.bool true] else .tuple #[.agg #[.int .i64 0,.nilIface,.nilIface],.bool false]) w:=Gb
theorem Tryz.ta_callNode (t:TypeId) (x:Value) (w:World):(Instr.typeAssert (.iface t x) 86 183 true).run prog w = .ok (if t=183 then .tuple #[x,.bool true] else .tuple #[.agg #[.string ByteArray.empty,.slice none 0 0],.bool false]) w:=Gb
theorem Tryz.ta_builtNode (t:TypeId) (x:Value) (w:World):(Instr.typeAssert (.iface t x) 86 188 true).run prog w = .ok (if t=188 then .tuple #[x,.bool true] else .tuple #[.agg #[.int .i64 0,.slice none 0 0],.bool false]) w:=Gb
theorem Tryz.ta_convNode (t:TypeId) (x:Value) (w:World):(Instr.typeAssert (.iface t x) 86 190 true).run prog w = .ok (if t=190 then .tuple #[x,.bool true] else .tuple #[.agg #[.int .i64 0,.nilIface],.bool false]) w:=Gb
theorem Tryz.ta_letNode (t:TypeId) (x:Value) (w:World):(Instr.typeAssert (.iface t x) 86 192 true).run prog w = .ok (if t=192 then .tuple #[x,.bool true] else .tuple #[.agg #[.string ByteArray.empty,.nilIface],.bool false]) w:=Gb
theorem Tryz.ta_setNode (t:TypeId) (x:Value) (w:World):(Instr.typeAssert (.iface t x) 86 193 true).run prog w = .ok (if t=193 then .tuple #[x,.bool true] else .tuple #[.agg #[.string ByteArray.empty,.nilIface],.bool false]) w:=Gb
theorem Tryz.ta_ifNode (t:TypeId) (x:Value) (w:World):(Instr.typeAssert (.iface t x) 86 205 true).run prog w = .ok (if t=205 then .tuple #[x,.bool true] else .tuple #[.agg #[.nilIface,.slice none 0 0,.nilIface],.bool false]) w:=Gb
theorem Tryz.ta_whileNode (t:TypeId) (x:Value) (w:World):(Instr.typeAssert (.iface t x) 86 207 true).run prog w = .ok (if t=207 then .tuple #[x,.bool true] else .tuple #[.agg #[.nilIface,.slice none 0 0],.bool false]) w:=Gb
theorem Tryz.ta_breakNode (t:TypeId) (x:Value) (w:World):(Instr.typeAssert (.iface t x) 86 195 true).run prog w = .ok (if t=195 then .tuple #[x,.bool true] else .tuple #[.agg #[],.bool false]) w:=Gb
theorem Tryz.ta_continueNode (t:TypeId) (x:Value) (w:World):(Instr.typeAssert (.iface t x) 86 196 true).run prog w = .ok (if t=196 then .tuple #[x,.bool true] else .tuple #[.agg #[],.bool false]) w:=Gb
theorem Tryz.ta_returnNode (t:TypeId) (x:Value) (w:World):(Instr.typeAssert (.iface t x) 86 198 true).run prog w = .ok (if t=198 then .tuple #[x,.bool true] else .tuple #[.agg #[.nilIface],.bool false]) w:=Gb
theorem Tryz.ta_failNode (t:TypeId) (x:Value) (w:World):(Instr.typeAssert (.iface t x) 86 200 true).run prog w = .ok (if t=200 then .tuple #[x,.bool true] else .tuple #[.agg #[.nilIface],.bool false]) w:=Gb
theorem Tryz.ta_writeNode (t:TypeId) (x:Value) (w:World):(Instr.typeAssert (.iface t x) 86 202 true).run prog w = .ok (if t=202 then .tuple #[x,.bool true] else .tuple #[.agg #[.nilIface,.nilIface],.bool false]) w:=Gb
theorem Tryz.ta_sayNode (t:TypeId) (x:Value) (w:World):(Instr.typeAssert (.iface t x) 86 203 true).run prog w = .ok (if t=203 then .tuple #[x,.bool true] else .tuple #[.agg #[.nilIface],.bool false]) w:=Gb
theorem Tryz.ta_doNode (t:TypeId) (x:Value) (w:World):(Instr.typeAssert (.iface t x) 86 209 true).run prog w = .ok (if t=209 then .tuple #[x,.bool true] else .tuple #[.agg #[.string ByteArray.empty,.slice none 0 0],.bool false]) w:=Gb
theorem Tryz.ta_blockNode (t:TypeId) (x:Value) (w:World):(Instr.typeAssert (.iface t x) 86 51 true).run prog w = .ok (if t=51 then .tuple #[x,.bool true] else .tuple #[.agg #[.slice none 0 0],.bool false]) w:=Gb
theorem Tryz.ta_paramNode (t:TypeId) (x:Value) (w:World):(Instr.typeAssert (.iface t x) 86 94 true).run prog w = .ok (if t=94 then .tuple #[x,.bool true] else .tuple #[.agg #[.string ByteArray.empty,.int .i64 0],.bool false]) w:=Gb
theorem Tryz.ta_fnNode (t:TypeId) (x:Value) (w:World):(Instr.typeAssert (.iface t x) 86 53 true).run prog w = .ok (if t=53 then .tuple #[x,.bool true] else .tuple #[.agg #[.string ByteArray.empty,.int .i64 0,.slice none 0 0,.slice none 0 0],.bool false]) w:=Gb
theorem Tryz.ta_programNode (t:TypeId) (x:Value) (w:World):(Instr.typeAssert (.iface t x) 86 40 true).run prog w = .ok (if t=40 then .tuple #[x,.bool true] else .tuple #[.agg #[.slice none 0 0],.bool false]) w:=Gb
theorem isValue_ty (k:Int) (h1:1<=k) (h2:k<=24) (x:Value) (w:World) :
  Calls prog 104 #[.iface (A9 k) x] w fun e w'=>e = .returned (.bool (Ah k))/\w=w':=by
 have a:=Tryz.ta_intNode;have b:=Tryz.ta_textNode;have c:=Tryz.ta_boolNode;have d:=Tryz.ta_nameNode;have f:=Tryz.ta_unNode;have g:=Tryz.ta_binNode;have h:=Tryz.ta_callNode;have i:=Tryz.ta_builtNode;have j:=Tryz.ta_convNode;rcases N4 k h1 h2 with rfl|rfl|rfl|rfl|rfl|rfl|rfl|rfl|rfl|rfl|rfl|rfl|rfl|rfl|rfl|rfl|rfl|rfl|rfl|rfl|rfl|rfl|rfl|rfl
 all_goals
  simp only[A9];simp (decide:=true) only[if_true,if_false];go_enter func104,ntmps104;go_wp2;go_ret;exact⟨by rfl,rfl⟩
theorem isStatement_ty (k:Int) (h1:1<=k) (h2:k<=24) (x:Value) (w:World) :
  Calls prog 69 #[.iface (A9 k) x] w fun e w'=>e = .returned (.bool (Cv k))/\w=w':=by
 have b:=Tryz.ta_letNode;have c:=Tryz.ta_setNode;have d:=Tryz.ta_ifNode;have f:=Tryz.ta_whileNode;have g:=Tryz.ta_breakNode;have h:=Tryz.ta_continueNode;have i:=Tryz.ta_returnNode;have j:=Tryz.ta_failNode;have l:=Tryz.ta_writeNode;have m:=Tryz.ta_sayNode;have a:=Tryz.ta_doNode;rcases N4 k h1 h2 with rfl|rfl|rfl|rfl|rfl|rfl|rfl|rfl|rfl|rfl|rfl|rfl|rfl|rfl|rfl|rfl|rfl|rfl|rfl|rfl|rfl|rfl|rfl|rfl
 all_goals
  simp only[A9];simp (decide:=true) only[if_true,if_false];go_enter func69,ntmps69;go_wp2;go_ret;exact⟨by rfl,rfl⟩
def Bk (P:Nat->Prop) (w:World) (S:Value) (n:Nat) (cs:List Value):Prop :=
 ∃ a c,S = .slice a n c/\∀ (j:Nat) u,cs[j]? = some u->∃ g,a=some (OK g 0)/\P g/\w.cell? (OK g j)=some u
structure C4 where
 name:ByteArray
 result:Int
 sa:Option Addr
 sn:Nat
 sc:Nat
 ba:Option Addr
 bn:Nat
 bc:Nat
def C4.sp (f:C4):Value:=.slice f.sa f.sn f.sc
def C4.sb (f:C4):Value:=.slice f.ba f.bn f.bc
def M6 (k:Int) (x:Value):Prop:=(k=21->∃ a n c,x = .agg #[.slice a n c])/\(k=7->∃ nm a n c,x = .agg #[.string nm,.slice a n c])/\(k=22->∃ nm t,x = .agg #[.string nm,.int .i64 t])/\(k=23->∃ nm r a n c a' n' c',x = .agg #[.string nm,.int .i64 r,.slice a n c,.slice a' n' c'])
def Aq (us:List Value) (ks:List Int):Prop:=us.length=ks.length/\∀ i (h:i < ks.length),1<=ks[i]/\ks[i]<=24/\∃ x,us[i]? = some (.iface (A9 ks[i]) x)/\M6 ks[i] x
theorem Bk.alloc {P:Nat->Prop} {w:World} {S:Value} {n:Nat} {cs:List Value} (h:Bk P w S n cs) (hP:∀ g,P g->g < w.heap.size) (o:Obj):Bk P (w.alloc o) S n cs:=by
 obtain⟨a,c,rfl,i⟩:=h;refine⟨a,c,rfl,fun j u hj => ?_⟩;obtain⟨g,f,d,b⟩:=i j u hj;exact⟨g,f,d,by rw[World.cell?_alloc_past _ _ _ (hP g d)];exact b⟩
theorem Bk.below {P Q:Nat->Prop} {w w':World} {S:Value} {n:Nat} {cs:List Value} (h:Bk P w S n cs) (hQ:∀ g,P g->Q g) (hc:∀ g,P g->w'.heap[g]? = w.heap[g]?):Bk Q w' S n cs:=by
 obtain⟨a,c,rfl,d⟩:=h;refine⟨a,c,rfl,fun j u hj => ?_⟩;obtain⟨g,i,f,b⟩:=d j u hj;exact⟨g,i,hQ g f,by rw[World.cell?_of_block (w:=w) (hc g f)];exact b⟩
theorem isValue_is (k:Int) (h1:1<=k) (h2:k<=24) (x:Value) (b:Bool) (hb:Hid (Ah k=b)) (w:World) :
  Calls prog 104 #[.iface (A9 k) x] w fun e w'=>e = .returned (.bool b)/\w=w':=by
 rw[<- hb.out];exact isValue_ty k h1 h2 x w
theorem allValue_any (P:Nat->Prop) (us:List Value) (ks:List Int) (S:Value) (n:Nat) (HN:Hid (ks.length=n)) (w:World) (hS:Bk P w S n us) (hk:Aq us ks) (hl:n<=1000000) :
  Calls prog 68 #[S,.func (.func 104) #[] #[]] w fun e w'=>e = .returned (.bool (ks.all Ah))/\w=w':=by
 obtain⟨a,c,rfl,m⟩:=hS;obtain⟨_,f⟩:=hk;go_enter func68,ntmps68;go_wp2;go_loop [9] (fun t => ∃ i:Nat,i<=n/\t = .int .i64 (i:Int)/\(ks.drop i).all Ah=ks.all Ah) (fun t=>n - (intOf t).toNat);case atStart=>exact⟨0,by omega,rfl,rfl⟩
 case round =>
  obtain⟨i,s,rfl,d⟩:=hrel;by_cases hlt:i < n
  ·have j:i < ks.length:=(by rw[HN.out];exact hlt);obtain⟨p,q,x,r,_⟩:=f i j;obtain⟨g,rfl,_,o⟩:=m i _ r;rw[List.drop_eq_getElem_cons j,List.all_cons]at d;clear m f;generalize ks[i]=k at *;obtain⟨b,l⟩:∃ b,Hid (Ah k=b):=⟨_,(rfl:Ah k=_)⟩;rw[l.out]at d;cases b with
   | true =>
    have h:Hid ((ks.drop (i+1)).all Ah=ks.all Ah):=(by rw[Hid];simpa using d);clear d;go_wp2_with (go_at_call 104;refine(isValue_is k p q x true l _).mono ?_;rintro e w' ⟨rfl,rfl⟩);go_round;case rel=>exact⟨i+1,by omega,by go_num,h.out⟩
    case measure=>simp[intOf];omega
   | false =>
    have h:Hid (ks.all Ah=false):=(by rw[Hid,<- d];rfl);clear d;go_wp2_with (go_at_call 104;refine(isValue_is k p q x false l _).mono ?_;rintro e w' ⟨rfl,rfl⟩);go_ret;exact⟨Al h.out.symm,rfl⟩
  ·have h:Hid (ks.all Ah=true):=by
    rw[List.drop_of_length_le (by rw[HN.out];omega)]at d;rw[Hid,<- d];rfl
   clear d m f;go_wp2;go_ret;exact⟨Al h.out.symm,rfl⟩
theorem allValue_is (b:Bool) (P:Nat->Prop) (us:List Value) (ks:List Int) (hb:Hid (ks.all Ah=b)) (S:Value) (n:Nat) (HN:Hid (ks.length=n)) (w:World) (hS:Bk P w S n us) (hk:Aq us ks) (hl:n<=1000000) :
  Calls prog 68 #[S,.func (.func 104) #[] #[]] w fun e w'=>e = .returned (.bool b)/\w=w':=by
 rw[<- hb.out];exact allValue_any P us ks S n HN w hS hk hl
theorem isStatement_is (k:Int) (h1:1<=k) (h2:k<=24) (x:Value) (b:Bool) (hb:Hid (Cv k=b)) (w:World) :
  Calls prog 69 #[.iface (A9 k) x] w fun e w'=>e = .returned (.bool b)/\w=w':=by
 rw[<- hb.out];exact isStatement_ty k h1 h2 x w
theorem allStatement_any (P:Nat->Prop) (us:List Value) (ks:List Int) (S:Value) (n:Nat) (HN:Hid (ks.length=n)) (w:World) (hS:Bk P w S n us) (hk:Aq us ks) (hl:n<=1000000) :
  Calls prog 68 #[S,.func (.func 69) #[] #[]] w fun e w'=>e = .returned (.bool (ks.all Cv))/\w=w':=by
 obtain⟨a,c,rfl,m⟩:=hS;obtain⟨_,f⟩:=hk;go_enter func68,ntmps68;go_wp2;go_loop [9] (fun t => ∃ i:Nat,i<=n/\t = .int .i64 (i:Int)/\(ks.drop i).all Cv=ks.all Cv) (fun t=>n - (intOf t).toNat);case atStart=>exact⟨0,by omega,rfl,rfl⟩
 case round =>
  obtain⟨i,s,rfl,d⟩:=hrel;by_cases hlt:i < n
  ·have j:i < ks.length:=(by rw[HN.out];exact hlt);obtain⟨p,q,x,r,_⟩:=f i j;obtain⟨g,rfl,_,o⟩:=m i _ r;rw[List.drop_eq_getElem_cons j,List.all_cons]at d;clear m f;generalize ks[i]=k at *;obtain⟨b,l⟩:∃ b,Hid (Cv k=b):=⟨_,(rfl:Cv k=_)⟩;rw[l.out]at d;cases b with
   | true =>
    have h:Hid ((ks.drop (i+1)).all Cv=ks.all Cv):=(by rw[Hid];simpa using d);clear d;go_wp2_with (go_at_call 69;refine(isStatement_is k p q x true l _).mono ?_;rintro e w' ⟨rfl,rfl⟩);go_round;case rel=>exact⟨i+1,by omega,by go_num,h.out⟩
    case measure=>simp[intOf];omega
   | false =>
    have h:Hid (ks.all Cv=false):=(by rw[Hid,<- d];rfl);clear d;go_wp2_with (go_at_call 69;refine(isStatement_is k p q x false l _).mono ?_;rintro e w' ⟨rfl,rfl⟩);go_ret;exact⟨Al h.out.symm,rfl⟩
  ·have h:Hid (ks.all Cv=true):=by
    rw[List.drop_of_length_le (by rw[HN.out];omega)]at d;rw[Hid,<- d];rfl
   clear d m f;go_wp2;go_ret;exact⟨Al h.out.symm,rfl⟩
theorem allStatement_is (b:Bool) (P:Nat->Prop) (us:List Value) (ks:List Int) (hb:Hid (ks.all Cv=b)) (S:Value) (n:Nat) (HN:Hid (ks.length=n)) (w:World) (hS:Bk P w S n us) (hk:Aq us ks) (hl:n<=1000000) :
  Calls prog 68 #[S,.func (.func 69) #[] #[]] w fun e w'=>e = .returned (.bool b)/\w=w':=by
 rw[<- hb.out];exact allStatement_any P us ks S n HN w hS hk hl
def Gm (p:ByteArray × Int):Value:=.iface 94 (.agg #[.string p.1,.int .i64 p.2])
def F8 (f:C4):Value:=.iface 53 (.agg #[.string f.name,.int .i64 f.result,f.sp,f.sb])
def Dv (S:Value):Value:=.iface 51 (.agg #[S])
def Az (P:Nat->Prop) (w:World) (d:Ae) (us:List Value) (x:Value):Prop :=
 if d.kind=1 then us=[]/\x = .agg #[.int .i64 d.type,.int .i64 d.n]
 else if d.kind=2 then us=[]/\x = .agg #[.string d.text]
 else if d.kind=3 then us=[]/\x = .agg #[.bool (d.n == 1)]
 else if d.kind=4 then us=[]/\x = .agg #[.string d.text]
 else if d.kind=5 then ∃ u,us=[u]/\x = .agg #[.int .i64 d.op,u]
 else if d.kind=6 then ∃ u v,us=[u,v]/\x = .agg #[.int .i64 d.op,u,v]
 else if d.kind=7 then ∃ S,Bk P w S us.length us/\x = .agg #[.string d.text,S]
 else if d.kind=8 then ∃ S,Bk P w S us.length us/\x = .agg #[.int .i64 d.op,S]
 else if d.kind=9 then ∃ u,us=[u]/\x = .agg #[.int .i64 d.type,u]
 else if d.kind=10\/d.kind=11 then ∃ u,us=[u]/\x = .agg #[.string d.text,u]
 else if d.kind=12 then (∃ u S,us=[u,Dv S]/\x = .agg #[u,S,.nilIface])\/(∃ u S t y,us=[u,Dv S,.iface t y]/\x = .agg #[u,S,.iface t y])
 else if d.kind=13 then ∃ u S,us=[u,Dv S]/\x = .agg #[u,S]
 else if d.kind=14\/d.kind=15 then us=[]/\x = .agg #[]
 else if d.kind=16 then (us=[]/\x = .agg #[.nilIface])\/(∃ t y,us=[.iface t y]/\x = .agg #[.iface t y])
 else if d.kind=17\/d.kind=19 then ∃ u,us=[u]/\x = .agg #[u]
 else if d.kind=18 then ∃ u v,us=[u,v]/\x = .agg #[u,v]
 else if d.kind=20 then ∃ nm S,us=[.iface 183 (.agg #[.string nm,S])]/\x = .agg #[.string nm,S]
 else if d.kind=21 then ∃ S,Bk P w S us.length us/\x = .agg #[S]
 else if d.kind=22 then us=[]/\x = .agg #[.string d.text,.int .i64 d.type]
 else if d.kind=23 then ∃ (ps:List (ByteArray × Int)) (SP SB:Value),us=ps.map Gm++[Dv SB]/\Bk P w SP ps.length (ps.flatMap (fun p=>[.string p.1,.int .i64 p.2]))/\x = .agg #[.string d.text,.int .i64 d.type,SP,SB]
 else ∃ (fs:List C4) (SF:Value),us=fs.map F8/\Bk P w SF fs.length (fs.flatMap (fun f=>[.string f.name,.int .i64 f.result,f.sp,f.sb]))/\x = .agg #[SF]
def H7 (P:Nat->Prop) (w:World) (d:Ae) (us:List Value) (v:Value):Prop:=1<=d.kind/\d.kind<=24/\∃ x,v = .iface (A9 d.kind) x/\Az P w d us x
def De (P:Nat->Prop) (w:World) (d:Ae) (us:List Value) (ks:List Int) (e:Ending) (w':World):Prop :=
 Below w.heap.size w w'/\((Ac d.kind d.op ks=true/\∃ v,e = .returned v/\H7 (fun g=>P g\/(w.heap.size<=g/\g < w'.heap.size)) w' d us v)\/(Ac d.kind d.op ks=false/\e = .returned .nilIface))
def Ed (w:World):Prop:=(∀ m:Nat,1<=m->m<=12->w.cell? (OK 2 (m * 2+1))=some (.int .i64 (Bv (m:Int))))/\2 < w.heap.size
theorem Fb (ks:List Int):D4 ks=(decide (ks.length=1) && ks.all Ah):=by
 match ks with
 | []=>rfl
 | [a]=>simp[D4]
 | a::b::r=>simp[D4]
theorem B7 {us:List Value} {ks:List Int} (h:Aq us ks) (i:Nat) (u:Value) (hi:us[i]? = some u):∃ k y,1<=k/\k<=24/\ks[i]? = some k/\u = .iface (A9 k) y/\M6 k y:=by
 have a:i < ks.length:=by rw[<- h.1];exact(List.getElem?_eq_some_iff.1 hi).1
 obtain⟨c,d,x,b,f⟩:=h.2 i a;rw[hi]at b;exact⟨ks[i],x,c,d,List.getElem?_eq_getElem a,Option.some.inj b,f⟩
theorem Xu {us:List Value} {ks:List Int} (h:Aq us ks) (hl:us.length=1):∃ t y,us=[.iface t y]:=by
 match us,hl with
 | [u],_ =>
  obtain⟨k,y,_,_,_,rfl,_⟩:=B7 h 0 u rfl;exact⟨_,_,rfl⟩
theorem Qjf {us:List Value} {ks:List Int} (h:Aq us ks) (hl:us.length=2):∃ t y t' a,us=[.iface t y,.iface t' a]:=by
 match us,hl with
 | [u,v],_ =>
  obtain⟨k,y,_,_,_,rfl,_⟩:=B7 h 0 u rfl;obtain⟨b,a,_,_,_,rfl,_⟩:=B7 h 1 v rfl;exact⟨_,_,_,_,rfl⟩
theorem T8 {us:List Value} (h:us.length=0):us=[]:=List.eq_nil_of_length_eq_zero h
theorem T4 {ks:List Int} (o:Int) (k:Int) (h1:1<=k) (h2:k<=9) (h:ks.all Ah=false):Ac k o ks=false:=by
 have:ks≠[]:=by intro a;subst a;simp at h
 have b:ks.length≠0:=by intro a;exact this (List.eq_nil_of_length_eq_zero a)
 have:k=1\/k=2\/k=3\/k=4\/k=5\/k=6\/k=7\/k=8\/k=9:=OC
 rcases this with rfl|rfl|rfl|rfl|rfl|rfl|rfl|rfl|rfl <;> simp[Ac,Fb,h] <;> simpa using b
theorem DdTreeLx66 {P:Prop} (h:P:=by
 go_wp2_with (go_at_call 68;refine(allValue_is true P _ ks j _ 0 HN _ d hk hl).mono ?_;rintro e w' ⟨rfl,rfl⟩)
 go_ret
 refine⟨i,.inl ⟨f.out,_,rfl,by simp,by simp,_,rfl,by simp[Az]⟩⟩
 ):P:=h
theorem grownValue_al (kc:Int) (hkc:kc=1\/kc=2\/kc=3\/kc=4) (o t y:Int) (x:ByteArray) (k:Int) (P:Nat->Prop) (us:List Value) (ks:List Int) (S:Value) (n:Nat) (HN:Hid (ks.length=n)) (w:World) (hP:∀ g,P g->g < w.heap.size) (hS:Bk P w S n us) (hk:Aq us ks) (hl:n<=1000000) :
  Calls prog 66 #[Af ⟨kc,o,t,y,x,k⟩,S] w fun e w'=>De P w ⟨kc,o,t,y,x,k⟩ us ks e w':=by
 have i:=(Below.refl w.heap.size w).alloc ON (.cells #[.int .i64 kc,.int .i64 o,.int .i64 t,.int .i64 y,.string x,.int .i64 k] 62);have d:=hS.alloc hP (.cells #[.int .i64 kc,.int .i64 o,.int .i64 t,.int .i64 y,.string x,.int .i64 k] 62);obtain⟨a,c,rfl,l⟩:=hS;have b:us.length=n:=by rw[hk.1];exact HN.out
 simp only[Af];cases hE:ks.all Ah with
 | false =>
  have j:Hid (ks.all Ah=false):=hE;have f:Hid (Ac kc o ks=false):=T4 o kc OC OC hE;clear hE;rcases hkc with rfl|rfl|rfl|rfl
  all_goals
   go_enter func66,ntmps66;go_wp2_with (go_at_call 68;refine(allValue_is false P us ks j _ n HN _ d hk hl).mono ?_;rintro e w' ⟨rfl,rfl⟩);go_ret;exact⟨i,.inr ⟨f.out,rfl⟩⟩
 | true =>
  have j:Hid (ks.all Ah=true):=hE;by_cases h1:n=0
  ·subst h1;have f:Hid (Ac kc o ks=true):=by rw[Hid];have:=HN.out;rcases hkc with rfl|rfl|rfl|rfl <;> simp[Ac,this]
   clear hE;obtain rfl:=T8 b;clear l;rcases hkc with rfl|rfl|rfl|rfl
   all_goals
    go_enter func66,ntmps66;exact DdTreeLx66
  ·have f:Hid (Ac kc o ks=false):=by rw[Hid];have:=HN.out;rcases hkc with rfl|rfl|rfl|rfl <;> simp[Ac,this,h1]
   have p:((n:Int) == 0)=false:=(by simpa using (by omega:¬ (n:Int)=0));clear hE h1 b;rcases hkc with rfl|rfl|rfl|rfl
   all_goals
    go_enter func66,ntmps66;go_wp2_with (go_at_call 68;refine(allValue_is true P us ks j _ n HN _ d hk hl).mono ?_;rintro e w' ⟨rfl,rfl⟩);go_ret;exact⟨i,.inr ⟨f.out,rfl⟩⟩
theorem DdTreeLx112 {P:Prop} (h:P:=by
 go_wp2_with (go_at_call 68;refine(allValue_is true P _ ks j _ 1 HN _ d hk hl).mono ?_;rintro e w' ⟨rfl,rfl⟩)
 go_quiet (fail)
 go_wp2
 go_ret
 refine⟨F7 _ i,.inl ⟨f.out,_,rfl,by simp,by simp,_,rfl,by simp[Az]⟩⟩
 ):P:=h
theorem grownValue_bl (kc:Int) (hkc:kc=5\/kc=9) (o t y:Int) (x:ByteArray) (k:Int) (P:Nat->Prop) (us:List Value) (ks:List Int) (S:Value) (n:Nat) (HN:Hid (ks.length=n)) (w:World) (hP:∀ g,P g->g < w.heap.size) (hS:Bk P w S n us) (hk:Aq us ks) (hl:n<=1000000) :
  Calls prog 66 #[Af ⟨kc,o,t,y,x,k⟩,S] w fun e w'=>De P w ⟨kc,o,t,y,x,k⟩ us ks e w':=by
 have i:=(Below.refl w.heap.size w).alloc ON (.cells #[.int .i64 kc,.int .i64 o,.int .i64 t,.int .i64 y,.string x,.int .i64 k] 62);have d:=hS.alloc hP (.cells #[.int .i64 kc,.int .i64 o,.int .i64 t,.int .i64 y,.string x,.int .i64 k] 62);obtain⟨a,c,rfl,l⟩:=hS;have b:us.length=n:=by rw[hk.1];exact HN.out
 simp only[Af];cases hE:ks.all Ah with
 | false =>
  have j:Hid (ks.all Ah=false):=hE;have f:Hid (Ac kc o ks=false):=T4 o kc OC OC hE;clear hE;rcases hkc with rfl|rfl
  all_goals
   go_enter func66,ntmps66;go_wp2_with (go_at_call 68;refine(allValue_is false P us ks j _ n HN _ d hk hl).mono ?_;rintro e w' ⟨rfl,rfl⟩);go_ret;exact⟨i,.inr ⟨f.out,rfl⟩⟩
 | true =>
  have j:Hid (ks.all Ah=true):=hE;by_cases h1:n=1
  ·subst h1;have f:Hid (Ac kc o ks=true):=by rw[Hid];have:=HN.out;rcases hkc with rfl|rfl <;> simp[Ac,Fb,this,hE]
   clear hE;obtain⟨z,A,rfl⟩:=Xu hk b;obtain⟨g,rfl,r,v⟩:=l 0 _ rfl;have s:=hP g r;clear l;rcases hkc with rfl|rfl
   all_goals
    go_enter func66,ntmps66;exact DdTreeLx112
  ·have f:Hid (Ac kc o ks=false):=by rw[Hid];have:=HN.out;rcases hkc with rfl|rfl <;> simp[Ac,Fb,this,h1]
   have p:((n:Int) == 1)=false:=(by simpa using (by omega:¬ (n:Int)=1));clear hE h1 b;rcases hkc with rfl|rfl
   all_goals
    go_enter func66,ntmps66;go_wp2_with (go_at_call 68;refine(allValue_is true P us ks j _ n HN _ d hk hl).mono ?_;rintro e w' ⟨rfl,rfl⟩);go_ret;exact⟨i,.inr ⟨f.out,rfl⟩⟩
theorem DdTreeLx158 {P:Prop} (h:P:=by
 go_wp2_with (go_at_call 68;refine(allValue_is true P _ ks j _ 2 HN _ d hk hl).mono ?_;rintro e w' ⟨rfl,rfl⟩)
 go_quiet (fail)
 go_wp2
 go_ret
 refine⟨F7 _ i,.inl ⟨f.out,_,rfl,by simp,by simp,_,rfl,by simp[Az]⟩⟩
 ):P:=h
theorem DdTreeLx140 {P:Prop} (h:P:=by
 clear hE
 go_enter func66,ntmps66
 go_wp2_with (go_at_call 68;refine(allValue_is false P us ks j _ n HN _ d hk hl).mono ?_;rintro e w' ⟨rfl,rfl⟩)
 go_ret
 exact⟨i,.inr ⟨f.out,rfl⟩⟩
 ):P:=h
theorem DdTreeLx165 {P:Prop} (h:P:=by
 clear hE h1 b
 go_enter func66,ntmps66
 go_wp2_with (go_at_call 68;refine(allValue_is true P us ks j _ n HN _ d hk hl).mono ?_;rintro e w' ⟨rfl,rfl⟩)
 go_ret
 exact⟨i,.inr ⟨f.out,rfl⟩⟩
 ):P:=h
theorem grownValue_6 (o t y:Int) (x:ByteArray) (k:Int) (P:Nat->Prop) (us:List Value) (ks:List Int) (S:Value) (n:Nat) (HN:Hid (ks.length=n)) (w:World) (hP:∀ g,P g->g < w.heap.size) (hS:Bk P w S n us) (hk:Aq us ks) (hl:n<=1000000) :
  Calls prog 66 #[Af ⟨6,o,t,y,x,k⟩,S] w fun e w'=>De P w ⟨6,o,t,y,x,k⟩ us ks e w':=by
 have i:=(Below.refl w.heap.size w).alloc ON (.cells #[.int .i64 6,.int .i64 o,.int .i64 t,.int .i64 y,.string x,.int .i64 k] 62);have d:=hS.alloc hP (.cells #[.int .i64 6,.int .i64 o,.int .i64 t,.int .i64 y,.string x,.int .i64 k] 62);obtain⟨a,c,rfl,l⟩:=hS;have b:us.length=n:=by rw[hk.1];exact HN.out
 simp only[Af];cases hE:ks.all Ah with
 | false =>
  have j:Hid (ks.all Ah=false):=hE;have f:Hid (Ac 6 o ks=false):=T4 o 6 OC OC hE;exact DdTreeLx140
 | true =>
  have j:Hid (ks.all Ah=true):=hE;by_cases h1:n=2
  ·subst h1;have f:Hid (Ac 6 o ks=true):=(by rw[Hid];have:=HN.out;simp[Ac,this,hE]);clear hE;obtain⟨z,A,M,N,rfl⟩:=Qjf hk b;obtain⟨g,rfl,r,v⟩:=l 0 _ rfl;obtain⟨G,u,_,F⟩:=l 1 _ rfl;cases u
   have s:=hP g r;clear l;go_enter func66,ntmps66;exact DdTreeLx158
  ·have f:Hid (Ac 6 o ks=false):=(by rw[Hid];have:=HN.out;simp[Ac,this,h1]);have p:((n:Int) == 2)=false:=(by simpa using (by omega:¬ (n:Int)=2));exact DdTreeLx165
theorem grownValue_7 (o t y:Int) (x:ByteArray) (k:Int) (P:Nat->Prop) (us:List Value) (ks:List Int) (S:Value) (n:Nat) (HN:Hid (ks.length=n)) (w:World) (hP:∀ g,P g->g < w.heap.size) (hS:Bk P w S n us) (hk:Aq us ks) (hl:n<=1000000) :
  Calls prog 66 #[Af ⟨7,o,t,y,x,k⟩,S] w fun e w'=>De P w ⟨7,o,t,y,x,k⟩ us ks e w':=by
 have i:=(Below.refl w.heap.size w).alloc ON (.cells #[.int .i64 7,.int .i64 o,.int .i64 t,.int .i64 y,.string x,.int .i64 k] 62);have d:=hS.alloc hP (.cells #[.int .i64 7,.int .i64 o,.int .i64 t,.int .i64 y,.string x,.int .i64 k] 62);obtain⟨a,c,rfl,l⟩:=hS;have b:us.length=n:=by rw[hk.1];exact HN.out
 simp only[Af];cases hE:ks.all Ah with
 | false =>
  have j:Hid (ks.all Ah=false):=hE;have f:Hid (Ac 7 o ks=false):=T4 o 7 OC OC hE;exact DdTreeLx140
 | true =>
  have j:Hid (ks.all Ah=true):=hE;by_cases h1:n<=8
  ·have f:Hid (Ac 7 o ks=true):=(by rw[Hid];have:=HN.out;simp[Ac,this,hE,h1]);have p:(n:Int)<=8:=OC;clear hE h1;go_enter func66,ntmps66;go_wp2_with (go_at_call 68;refine(allValue_is true P _ ks j _ n HN _ d hk hl).mono ?_;rintro e w' ⟨rfl,rfl⟩);go_ret;refine⟨i,.inl ⟨f.out,_,rfl,by simp,by simp,_,rfl, ?_⟩⟩;have q:=d.below (Q:=fun g=>P g\/(w.heap.size<=g/\g < (w.alloc (.cells #[.int .i64 7,.int .i64 o,.int .i64 t,.int .i64 y,.string x,.int .i64 k] 62)).heap.size)) (fun g h => .inl h) (fun g h=>rfl);rw[<- b]at q;unfold Az;simp (decide:=true) only[if_false,if_true];exact⟨_,q,by rw[b]⟩
  ·have f:Hid (Ac 7 o ks=false):=(by rw[Hid];have:=HN.out;simp[Ac,this,h1]);have p:¬ (n:Int)<=8:=OC;exact DdTreeLx165
theorem grownValue_8 (o t y:Int) (x:ByteArray) (k:Int) (ho:1<=o/\o<=12) (P:Nat->Prop) (us:List Value) (ks:List Int) (S:Value) (n:Nat) (HN:Hid (ks.length=n)) (w:World) (hW:Ed w) (hP:∀ g,P g->g < w.heap.size) (hS:Bk P w S n us) (hk:Aq us ks) (hl:n<=1000000) :
  Calls prog 66 #[Af ⟨8,o,t,y,x,k⟩,S] w fun e w'=>De P w ⟨8,o,t,y,x,k⟩ us ks e w':=by
 have i:=(Below.refl w.heap.size w).alloc ON (.cells #[.int .i64 8,.int .i64 o,.int .i64 t,.int .i64 y,.string x,.int .i64 k] 62);have d:=hS.alloc hP (.cells #[.int .i64 8,.int .i64 o,.int .i64 t,.int .i64 y,.string x,.int .i64 k] 62);obtain⟨a,c,rfl,l⟩:=hS;have b:us.length=n:=by rw[hk.1];exact HN.out
 simp only[Af];cases hE:ks.all Ah with
 | false =>
  have j:Hid (ks.all Ah=false):=hE;have f:Hid (Ac 8 o ks=false):=T4 o 8 OC OC hE;exact DdTreeLx140
 | true =>
  have j:Hid (ks.all Ah=true):=hE;obtain⟨K,L⟩:=ho;obtain⟨D,C⟩:=hW;obtain⟨m,rfl⟩:∃ m:Nat,o=(m:Int):=⟨o.toNat,by omega⟩;have B:=D m OC OC;have J:(w.alloc (.cells #[.int .i64 8,.int .i64 (m:Int),.int .i64 t,.int .i64 y,.string x,.int .i64 k] 62)).cell? (OK 2 (m * 2+1))=some (.int .i64 (Bv (m:Int))):=by rw[World.cell?_alloc_past _ _ _ C];exact B
  clear D;have E:m < 13:=OC
  by_cases h1:(n:Int)=Bv (m:Int)
  ·have f:Hid (Ac 8 (m:Int) ks=true):=(by rw[Hid];have:=HN.out;simp[Ac,this,hE,h1]);have p:((n:Int) == Bv (m:Int))=true:=(by simpa using h1);clear hE h1;go_enter func66,ntmps66;go_wp2_with (go_at_call 68;refine(allValue_is true P _ ks j _ n HN _ d hk hl).mono ?_;rintro e w' ⟨rfl,rfl⟩);go_ret;refine⟨i,.inl ⟨f.out,_,rfl,by simp,by simp,_,rfl, ?_⟩⟩;have q:=d.below (Q:=fun g=>P g\/(w.heap.size<=g/\g < (w.alloc (.cells #[.int .i64 8,.int .i64 (m:Int),.int .i64 t,.int .i64 y,.string x,.int .i64 k] 62)).heap.size)) (fun g h => .inl h) (fun g h=>rfl);rw[<- b]at q;unfold Az;simp (decide:=true) only[if_false,if_true];exact⟨_,q,by rw[b]⟩
  ·have f:Hid (Ac 8 (m:Int) ks=false):=(by rw[Hid];have:=HN.out;simp[Ac,this,h1]);have p:((n:Int) == Bv (m:Int))=false:=(by simpa using h1);exact DdTreeLx165
end Go.Proofs.YtjlaedokfbcbpaaGreatDoor
