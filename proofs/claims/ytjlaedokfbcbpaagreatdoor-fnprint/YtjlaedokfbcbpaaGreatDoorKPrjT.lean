import Derived.Test.YtjlaedokfbcbpaaGreatDoorKPrjI
import Derived.Lib.Repeat
set_option maxRecDepth 100000
set_option maxHeartbeats 2000000
namespace Go.Proofs.YtjlaedokfbcbpaaGreatDoor
open Go.RowKit Proofs.Tryz
theorem Qkj (g:Nat) (l:List UInt8) (hl:l.length<=20000000) (x y:ByteArray) (hx:x.size<=15000000) (hy:y.size<=15000000) (w:World) (b:Nat) (hb:w.heap.size=b) (hA:Ao g l w) :
  Calls prog 36 #[.pointer (some (OK g 0)),.slice (some (OK b 0)) 2 2] (w.alloc (.cells #[.string x,.string y] 9)) fun e w' => ∃ l',e = .returned (.tuple #[])/\Ao g l' w'/\Ax l (x.data.toList++y.data.toList) l'/\Am g w w':=by
 subst hb;exact Sx g l hl x y hx hy w hA
theorem Qav (g:Nat) (l:List UInt8) (hl:l.length<=20000000) (x y z:ByteArray) (hx:x.size<=15000000) (hy:y.size<=15000000) (hz:z.size<=15000000) (w:World) (b:Nat) (hb:w.heap.size=b) (hA:Ao g l w) :
  Calls prog 36 #[.pointer (some (OK g 0)),.slice (some (OK b 0)) 3 3] (w.alloc (.cells #[.string x,.string y,.string z] 9)) fun e w' => ∃ l',e = .returned (.tuple #[])/\Ao g l' w'/\Ax l (x.data.toList++y.data.toList++z.data.toList) l'/\Am g w w':=by
 subst hb;exact Yh g l hl x y z hx hy hz w hA
theorem Yk (g:Nat) (l:List UInt8) (hl:l.length<=20000000) (w:World) (nm:ByteArray) (hnm:nm.size<=15000000) (kt:TypeId) (ky:Value) (T:List UInt8) (HV:Hid (C1 g w (.iface kt ky) T)) (HA:Hid (Ao g l w)) :
    Calls prog 112 #[.pointer (some (OK g 0)),.iface 192 (.agg #[.string nm,.iface kt ky])] w fun e w' => ∃ l',e = .returned (.tuple #[])/\Ao g l' w'/\Ax l (([108,101,116,32]:List UInt8)++nm.data.toList++([32,61,32]:List UInt8)++T) l'/\Am g w w':=by
  have k:=HA.out.lt;have o:=HA.out;have n:∀ ww:World,_:=Tryz.ta_letNode 192 (.agg #[.string nm,.iface kt ky]);simp only[if_true]at n;obtain⟨V,a⟩:∃ V,Hid (([108,101,116,32]:List UInt8)++nm.data.toList++([32,61,32]:List UInt8)++T=V):=⟨([108,101,116,32]:List UInt8)++nm.data.toList++([32,61,32]:List UInt8)++T,(rfl:([108,101,116,32]:List UInt8)++nm.data.toList++([32,61,32]:List UInt8)++T=_)⟩;rw[a.out];go_enter func112,ntmps112;go_wp2_with (first
    | (go_at_call 36;refine(Qav g l hl ⟨#[108,101,116,32]⟩ nm ⟨#[32,61,32]⟩ OD hnm OD (w.alloc _) (w.heap.size+1) OF (HA.out.alloc _)).mono ?_;rintro e r ⟨p,rfl,f,b,c⟩
       have m:=c.keep (Cf w _) OC OD
       have s:r.cell? (OK w.heap.size 1)=some (.iface kt ky):=(by rw[Lib.cell_of_heap m];rfl)
       have d:=(Am.alloc1 (Am.refl g w) k _).trans c)
    | (go_at_call 111;refine(HV.out _ p d.1 b.2.2.2 f).mono ?_;rintro e t ⟨q,rfl,h,i,j⟩))
  go_end0;exact⟨q,rfl,h,(b.trans i).eq a.out,d.trans j⟩
theorem Ym (g:Nat) (l:List UInt8) (hl:l.length<=20000000) (w:World) (nm:ByteArray) (hnm:nm.size<=15000000) (kt:TypeId) (ky:Value) (T:List UInt8) (HV:Hid (C1 g w (.iface kt ky) T)) (HA:Hid (Ao g l w)) :
    Calls prog 112 #[.pointer (some (OK g 0)),.iface 193 (.agg #[.string nm,.iface kt ky])] w fun e w' => ∃ l',e = .returned (.tuple #[])/\Ao g l' w'/\Ax l (nm.data.toList++([32,61,32]:List UInt8)++T) l'/\Am g w w':=by
  have k:=HA.out.lt;have p:=HA.out;have n:∀ ww:World,_:=Tryz.ta_letNode 193 (.agg #[.string nm,.iface kt ky]);simp only[if_neg (show ¬ (193=192) by decide)]at n;have o:∀ ww:World,_:=Tryz.ta_setNode 193 (.agg #[.string nm,.iface kt ky]);simp only[if_true]at o;obtain⟨V,a⟩:∃ V,Hid (nm.data.toList++([32,61,32]:List UInt8)++T=V):=⟨nm.data.toList++([32,61,32]:List UInt8)++T,(rfl:nm.data.toList++([32,61,32]:List UInt8)++T=_)⟩;rw[a.out];go_enter func112,ntmps112;go_wp2_with (first
    | (go_at_call 36;refine(Qkj g l hl nm ⟨#[32,61,32]⟩ hnm OD (w.alloc _) (w.heap.size+1) OF (HA.out.alloc _)).mono ?_;rintro e s ⟨q,rfl,f,b,c⟩
       have m:=c.keep (Cf w _) OC OD
       have t:s.cell? (OK w.heap.size 1)=some (.iface kt ky):=(by rw[Lib.cell_of_heap m];rfl)
       have d:=(Am.alloc1 (Am.refl g w) k _).trans c)
    | (go_at_call 111;refine(HV.out _ q d.1 b.2.2.2 f).mono ?_;rintro e u ⟨r,rfl,h,i,j⟩))
  go_end0;exact⟨r,rfl,h,(b.trans i).eq a.out,d.trans j⟩
theorem U5 (g:Nat) (l:List UInt8) (hl:l.length<=20000000) (w:World) (HA:Hid (Ao g l w)) :
  Calls prog 112 #[.pointer (some (OK g 0)),.iface 195 (.agg #[])] w fun e w' => ∃ l',e = .returned (.tuple #[])/\Ao g l' w'/\Ax l (([98,114,101,97,107]:List UInt8)) l'/\Am g w w':=by
 have f:=HA.out.lt;have k:=HA.out;have h:∀ ww:World,_:=Tryz.ta_letNode 195 (.agg #[]);simp only[if_neg (show ¬ (195=192) by decide)]at h;have i:∀ ww:World,_:=Tryz.ta_setNode 195 (.agg #[]);simp only[if_neg (show ¬ (195=193) by decide)]at i;have j:∀ ww:World,_:=Tryz.ta_breakNode 195 (.agg #[]);simp only[if_true]at j;obtain⟨V,a⟩:∃ V,Hid (([98,114,101,97,107]:List UInt8)=V):=⟨([98,114,101,97,107]:List UInt8),(rfl:([98,114,101,97,107]:List UInt8)=_)⟩;rw[a.out];go_enter func112,ntmps112;go_wp2_with (go_at_call 36;refine(C5 g l hl ⟨#[98,114,101,97,107]⟩ OD (w.alloc _) (w.heap.size+1) OF (HA.out.alloc _)).mono ?_;rintro e n ⟨m,rfl,b,c,d⟩);go_end0;exact⟨m,rfl,b,c.eq a.out,(Am.alloc1 (Am.refl g w) f _).trans d⟩
theorem Sy (g:Nat) (l:List UInt8) (hl:l.length<=20000000) (w:World) (HA:Hid (Ao g l w)) :
  Calls prog 112 #[.pointer (some (OK g 0)),.iface 196 (.agg #[])] w fun e w' => ∃ l',e = .returned (.tuple #[])/\Ao g l' w'/\Ax l (([99,111,110,116,105,110,117,101]:List UInt8)) l'/\Am g w w':=by
 have f:=HA.out.lt;have m:=HA.out;have h:∀ ww:World,_:=Tryz.ta_letNode 196 (.agg #[]);simp only[if_neg (show ¬ (196=192) by decide)]at h;have i:∀ ww:World,_:=Tryz.ta_setNode 196 (.agg #[]);simp only[if_neg (show ¬ (196=193) by decide)]at i;have j:∀ ww:World,_:=Tryz.ta_breakNode 196 (.agg #[]);simp only[if_neg (show ¬ (196=195) by decide)]at j;have k:∀ ww:World,_:=Tryz.ta_continueNode 196 (.agg #[]);simp only[if_true]at k;obtain⟨V,a⟩:∃ V,Hid (([99,111,110,116,105,110,117,101]:List UInt8)=V):=⟨([99,111,110,116,105,110,117,101]:List UInt8),(rfl:([99,111,110,116,105,110,117,101]:List UInt8)=_)⟩;rw[a.out];go_enter func112,ntmps112;go_wp2_with (go_at_call 36;refine(C5 g l hl ⟨#[99,111,110,116,105,110,117,101]⟩ OD (w.alloc _) (w.heap.size+1) OF (HA.out.alloc _)).mono ?_;rintro e o ⟨n,rfl,b,c,d⟩);go_end0;exact⟨n,rfl,b,c.eq a.out,(Am.alloc1 (Am.refl g w) f _).trans d⟩
theorem Te (g:Nat) (l:List UInt8) (hl:l.length<=20000000) (w:World) (HA:Hid (Ao g l w)) :
    Calls prog 112 #[.pointer (some (OK g 0)),.iface 198 (.agg #[.nilIface])] w fun e w' => ∃ l',e = .returned (.tuple #[])/\Ao g l' w'/\Ax l (([114,101,116,117,114,110]:List UInt8)) l'/\Am g w w':=by
  have f:=HA.out.lt;have o:=HA.out;have i:∀ ww:World,_:=Tryz.ta_letNode 198 (.agg #[.nilIface]);simp only[if_neg (show ¬ (198=192) by decide)]at i;have j:∀ ww:World,_:=Tryz.ta_setNode 198 (.agg #[.nilIface]);simp only[if_neg (show ¬ (198=193) by decide)]at j;have k:∀ ww:World,_:=Tryz.ta_breakNode 198 (.agg #[.nilIface]);simp only[if_neg (show ¬ (198=195) by decide)]at k;have m:∀ ww:World,_:=Tryz.ta_continueNode 198 (.agg #[.nilIface]);simp only[if_neg (show ¬ (198=196) by decide)]at m;have n:∀ ww:World,_:=Tryz.ta_returnNode 198 (.agg #[.nilIface]);simp only[if_true]at n;obtain⟨V,a⟩:∃ V,Hid (([114,101,116,117,114,110]:List UInt8)=V):=⟨([114,101,116,117,114,110]:List UInt8),(rfl:([114,101,116,117,114,110]:List UInt8)=_)⟩;rw[a.out];go_enter func112,ntmps112;go_wp2_with (first
    | (go_at_call 36;refine(C5 g l hl ⟨#[114,101,116,117,114,110]⟩ OD (w.alloc _) (w.heap.size+1) OF (HA.out.alloc _)).mono ?_;rintro e q ⟨p,rfl,c,d,b⟩
       have h:=b.keep (Cf w _) OC OD
       have r:q.cell? (OK w.heap.size 0)=some .nilIface:=(by rw[Lib.cell_of_heap h];rfl)))
  go_end0;exact⟨p,rfl,c,d.eq a.out,(Am.alloc1 (Am.refl g w) f _).trans b⟩
theorem Tf (g:Nat) (l:List UInt8) (hl:l.length<=20000000) (w:World) (kt:TypeId) (ky:Value) (T:List UInt8) (HV:Hid (C1 g w (.iface kt ky) T)) (HA:Hid (Ao g l w)) :
    Calls prog 112 #[.pointer (some (OK g 0)),.iface 198 (.agg #[.iface kt ky])] w fun e w' => ∃ l',e = .returned (.tuple #[])/\Ao g l' w'/\Ax l (([114,101,116,117,114,110]:List UInt8)++([32]:List UInt8)++T) l'/\Am g w w':=by
  have q:=HA.out.lt;have z:=HA.out;have s:∀ ww:World,_:=Tryz.ta_letNode 198 (.agg #[.iface kt ky]);simp only[if_neg (show ¬ (198=192) by decide)]at s;have t:∀ ww:World,_:=Tryz.ta_setNode 198 (.agg #[.iface kt ky]);simp only[if_neg (show ¬ (198=193) by decide)]at t;have u:∀ ww:World,_:=Tryz.ta_breakNode 198 (.agg #[.iface kt ky]);simp only[if_neg (show ¬ (198=195) by decide)]at u;have v:∀ ww:World,_:=Tryz.ta_continueNode 198 (.agg #[.iface kt ky]);simp only[if_neg (show ¬ (198=196) by decide)]at v;have x:∀ ww:World,_:=Tryz.ta_returnNode 198 (.agg #[.iface kt ky]);simp only[if_true]at x;obtain⟨V,a⟩:∃ V,Hid (([114,101,116,117,114,110]:List UInt8)++([32]:List UInt8)++T=V):=⟨([114,101,116,117,114,110]:List UInt8)++([32]:List UInt8)++T,(rfl:([114,101,116,117,114,110]:List UInt8)++([32]:List UInt8)++T=_)⟩;rw[a.out];go_enter func112,ntmps112;go_wp2_with (first
    | (go_at_call 36;with_reducible refine(C5 g l hl ⟨#[114,101,116,117,114,110]⟩ OD (w.alloc _) (w.heap.size+1) OF (HA.out.alloc _)).mono ?_;rintro e y ⟨A,rfl,j,b,d⟩
       have i:=d.keep (Cf w _) OC OD
       have E:y.cell? (OK w.heap.size 0)=some (.iface kt ky):=(by rw[Lib.cell_of_heap i];rfl)
       have p:=(Am.alloc1 (Am.refl g w) q _).trans d)
    | (go_at_call 36;refine(Cu g A b.2.2.2 ⟨#[32]⟩ OD y j).mono ?_;rintro e D ⟨B,rfl,k,c,f⟩
       have r:=f.keep i OC OD
       have F:D.cell? (OK w.heap.size 0)=some (.iface kt ky):=(by rw[Lib.cell_of_heap r];rfl)
       have h:=p.trans f)
    | (go_at_call 111;refine(HV.out _ B h.1 c.2.2.2 k).mono ?_;rintro e G ⟨C,rfl,m,n,o⟩))
  go_end0;exact⟨C,rfl,m,((b.trans c).trans n).eq a.out,h.trans o⟩
theorem Wm (g:Nat) (l:List UInt8) (hl:l.length<=20000000) (w:World) (kt:TypeId) (ky:Value) (T:List UInt8) (HV:Hid (C1 g w (.iface kt ky) T)) (HA:Hid (Ao g l w)) :
    Calls prog 112 #[.pointer (some (OK g 0)),.iface 200 (.agg #[.iface kt ky])] w fun e w' => ∃ l',e = .returned (.tuple #[])/\Ao g l' w'/\Ax l (([102,97,105,108,32]:List UInt8)++T) l'/\Am g w w':=by
  have k:=HA.out.lt;have t:=HA.out;have n:∀ ww:World,_:=Tryz.ta_letNode 200 (.agg #[.iface kt ky]);simp only[if_neg (show ¬ (200=192) by decide)]at n;have o:∀ ww:World,_:=Tryz.ta_setNode 200 (.agg #[.iface kt ky]);simp only[if_neg (show ¬ (200=193) by decide)]at o;have p:∀ ww:World,_:=Tryz.ta_breakNode 200 (.agg #[.iface kt ky]);simp only[if_neg (show ¬ (200=195) by decide)]at p;have q:∀ ww:World,_:=Tryz.ta_continueNode 200 (.agg #[.iface kt ky]);simp only[if_neg (show ¬ (200=196) by decide)]at q;have r:∀ ww:World,_:=Tryz.ta_returnNode 200 (.agg #[.iface kt ky]);simp only[if_neg (show ¬ (200=198) by decide)]at r;have s:∀ ww:World,_:=Tryz.ta_failNode 200 (.agg #[.iface kt ky]);simp only[if_true]at s;obtain⟨V,a⟩:∃ V,Hid (([102,97,105,108,32]:List UInt8)++T=V):=⟨([102,97,105,108,32]:List UInt8)++T,(rfl:([102,97,105,108,32]:List UInt8)++T=_)⟩;rw[a.out];go_enter func112,ntmps112;go_wp2_with (first
    | (go_at_call 36;refine(C5 g l hl ⟨#[102,97,105,108,32]⟩ OD (w.alloc _) (w.heap.size+1) OF (HA.out.alloc _)).mono ?_;rintro e x ⟨u,rfl,f,b,c⟩
       have m:=c.keep (Cf w _) OC OD
       have y:x.cell? (OK w.heap.size 0)=some (.iface kt ky):=(by rw[Lib.cell_of_heap m];rfl)
       have d:=(Am.alloc1 (Am.refl g w) k _).trans c)
    | (go_at_call 111;refine(HV.out _ u d.1 b.2.2.2 f).mono ?_;rintro e z ⟨v,rfl,h,i,j⟩))
  go_end0;exact⟨v,rfl,h,(b.trans i).eq a.out,d.trans j⟩
theorem Yl (g:Nat) (l:List UInt8) (hl:l.length<=20000000) (w:World) (kt:TypeId) (ky:Value) (T:List UInt8) (HV:Hid (C1 g w (.iface kt ky) T)) (HA:Hid (Ao g l w)) :
    Calls prog 112 #[.pointer (some (OK g 0)),.iface 203 (.agg #[.iface kt ky])] w fun e w' => ∃ l',e = .returned (.tuple #[])/\Ao g l' w'/\Ax l (([115,97,121,32]:List UInt8)++T) l'/\Am g w w':=by
  have k:=HA.out.lt;have v:=HA.out;have n:∀ ww:World,_:=Tryz.ta_letNode 203 (.agg #[.iface kt ky]);simp only[if_neg (show ¬ (203=192) by decide)]at n;have o:∀ ww:World,_:=Tryz.ta_setNode 203 (.agg #[.iface kt ky]);simp only[if_neg (show ¬ (203=193) by decide)]at o;have p:∀ ww:World,_:=Tryz.ta_breakNode 203 (.agg #[.iface kt ky]);simp only[if_neg (show ¬ (203=195) by decide)]at p;have q:∀ ww:World,_:=Tryz.ta_continueNode 203 (.agg #[.iface kt ky]);simp only[if_neg (show ¬ (203=196) by decide)]at q;have r:∀ ww:World,_:=Tryz.ta_returnNode 203 (.agg #[.iface kt ky]);simp only[if_neg (show ¬ (203=198) by decide)]at r;have s:∀ ww:World,_:=Tryz.ta_failNode 203 (.agg #[.iface kt ky]);simp only[if_neg (show ¬ (203=200) by decide)]at s;have t:∀ ww:World,_:=Tryz.ta_writeNode 203 (.agg #[.iface kt ky]);simp only[if_neg (show ¬ (203=202) by decide)]at t;have u:∀ ww:World,_:=Tryz.ta_sayNode 203 (.agg #[.iface kt ky]);simp only[if_true]at u;obtain⟨V,a⟩:∃ V,Hid (([115,97,121,32]:List UInt8)++T=V):=⟨([115,97,121,32]:List UInt8)++T,(rfl:([115,97,121,32]:List UInt8)++T=_)⟩;rw[a.out];go_enter func112,ntmps112;go_wp2_with (first
    | (go_at_call 36;refine(C5 g l hl ⟨#[115,97,121,32]⟩ OD (w.alloc _) (w.heap.size+1) OF (HA.out.alloc _)).mono ?_;rintro e z ⟨x,rfl,f,b,c⟩
       have m:=c.keep (Cf w _) OC OD
       have A:z.cell? (OK w.heap.size 0)=some (.iface kt ky):=(by rw[Lib.cell_of_heap m];rfl)
       have d:=(Am.alloc1 (Am.refl g w) k _).trans c)
    | (go_at_call 111;refine(HV.out _ x d.1 b.2.2.2 f).mono ?_;rintro e B ⟨y,rfl,h,i,j⟩))
  go_end0;exact⟨y,rfl,h,(b.trans i).eq a.out,d.trans j⟩
theorem Qh6 (g:Nat) (w:World) (hg:g < w.heap.size) (u v:Value):Kv g (w.alloc (.cells #[u,v] 86)) (.slice (some (OK w.heap.size 0)) 2 2) [u,v]:=by
 refine⟨_,_,rfl,fun j hj=>⟨w.heap.size,0,rfl,fun w' hF => ?_⟩⟩;have b:=hF.keep (Cf w _) OC OD;have a:j=0\/j=1:=by simp at hj;omega
 rcases a with rfl|rfl
 ·rw[Lib.cell_of_heap b];rfl
 ·rw[Lib.cell_of_heap b];rfl
theorem Qh9 {g:Nat} {w:World} {u v:Value} {x y:ByteArray} (h1:C1 g w u x.data.toList) (h2:C1 g w v y.data.toList):∀ j (_h:j < [u,v].length) (b:j < [x,y].length),C1 g w [u,v][j] [x,y][j].data.toList:=by
 intro j h b;have a:j=0\/j=1:=by simp at h;omega
 rcases a with rfl|rfl
 ·exact h1
 ·exact h2
theorem U6 (g:Nat) (l:List UInt8) (hl:l.length<=20000000) (w:World) (kt jt:TypeId) (ky jy:Value) (x y:ByteArray) (HV:Hid (C1 g w (.iface kt ky) x.data.toList)) (HJ:Hid (C1 g w (.iface jt jy) y.data.toList)) (HA:Hid (Ao g l w)) :
    Calls prog 112 #[.pointer (some (OK g 0)),.iface 202 (.agg #[.iface kt ky,.iface jt jy])] w fun e w' => ∃ l',e = .returned (.tuple #[])/\Ao g l' w'/\Ax l (([119,114,105,116,101,32]:List UInt8)++B6 [x,y]) l'/\Am g w w':=by
  have a:=HA.out.lt;have z:=HA.out;have o:∀ ww:World,_:=Tryz.ta_letNode 202 (.agg #[.iface kt ky,.iface jt jy]);simp only[if_neg (show ¬ (202=192) by decide)]at o;have p:∀ ww:World,_:=Tryz.ta_setNode 202 (.agg #[.iface kt ky,.iface jt jy]);simp only[if_neg (show ¬ (202=193) by decide)]at p;have q:∀ ww:World,_:=Tryz.ta_breakNode 202 (.agg #[.iface kt ky,.iface jt jy]);simp only[if_neg (show ¬ (202=195) by decide)]at q;have r:∀ ww:World,_:=Tryz.ta_continueNode 202 (.agg #[.iface kt ky,.iface jt jy]);simp only[if_neg (show ¬ (202=196) by decide)]at r;have s:∀ ww:World,_:=Tryz.ta_returnNode 202 (.agg #[.iface kt ky,.iface jt jy]);simp only[if_neg (show ¬ (202=198) by decide)]at s;have t:∀ ww:World,_:=Tryz.ta_failNode 202 (.agg #[.iface kt ky,.iface jt jy]);simp only[if_neg (show ¬ (202=200) by decide)]at t;have u:∀ ww:World,_:=Tryz.ta_writeNode 202 (.agg #[.iface kt ky,.iface jt jy]);simp only[if_true]at u;obtain⟨V,b⟩:∃ V,Hid (([119,114,105,116,101,32]:List UInt8)++B6 [x,y]=V):=⟨([119,114,105,116,101,32]:List UInt8)++B6 [x,y],(rfl:([119,114,105,116,101,32]:List UInt8)++B6 [x,y]=_)⟩;rw[b.out];go_enter func112,ntmps112;go_wp2_with (first
    | (go_at_call 36;refine(C5 g l hl ⟨#[119,114,105,116,101,32]⟩ OD (w.alloc _) (w.heap.size+1) OF (HA.out.alloc _)).mono ?_;rintro e v ⟨A,rfl,c,d,f⟩
       have i:=f.keep (Cf w _) OC OD
       have C:v.cell? (OK w.heap.size 0)=some (.iface kt ky):=(by rw[Lib.cell_of_heap i];rfl)
       have D:v.cell? (OK w.heap.size 1)=some (.iface jt jy):=(by rw[Lib.cell_of_heap i];rfl)
       have h:=(Am.alloc1 (Am.refl g w) a _).trans f))
  have n:=c.lt;refine(Un g w _ [.iface kt ky,.iface jt jy] [x,y] rfl OF A d.2.2.2 _ (Qh6 g v n _ _) (Qh9 HV.out HJ.out) (h.alloc1 a _).1 (c.alloc _)).mono ?_;rintro e E ⟨B,rfl,j,k,m⟩;go_wp2;go_end0;exact⟨B,rfl,j,(d.trans k).eq b.out,(h.alloc1 a _).trans m⟩
theorem Zw (g:Nat) (l:List UInt8) (hl:l.length<=20000000) (w:World) (nm:ByteArray) (sa:Option Addr) (sn sc:Nat) (T:List UInt8) (HV:Hid (C1 g w (.iface 183 (.agg #[.string nm,.slice sa sn sc])) T)) (HA:Hid (Ao g l w)) :
  Calls prog 112 #[.pointer (some (OK g 0)),.iface 209 (.agg #[.string nm,.slice sa sn sc])] w fun e w' => ∃ l',e = .returned (.tuple #[])/\Ao g l' w'/\Ax l (T) l'/\Am g w w':=by
 have b:=HA.out.lt;have r:=HA.out;have h:∀ ww:World,_:=Tryz.ta_letNode 209 (.agg #[.string nm,.slice sa sn sc]);simp only[if_neg (show ¬ (209=192) by decide)]at h;have i:∀ ww:World,_:=Tryz.ta_setNode 209 (.agg #[.string nm,.slice sa sn sc]);simp only[if_neg (show ¬ (209=193) by decide)]at i;have j:∀ ww:World,_:=Tryz.ta_breakNode 209 (.agg #[.string nm,.slice sa sn sc]);simp only[if_neg (show ¬ (209=195) by decide)]at j;have k:∀ ww:World,_:=Tryz.ta_continueNode 209 (.agg #[.string nm,.slice sa sn sc]);simp only[if_neg (show ¬ (209=196) by decide)]at k;have m:∀ ww:World,_:=Tryz.ta_returnNode 209 (.agg #[.string nm,.slice sa sn sc]);simp only[if_neg (show ¬ (209=198) by decide)]at m;have n:∀ ww:World,_:=Tryz.ta_failNode 209 (.agg #[.string nm,.slice sa sn sc]);simp only[if_neg (show ¬ (209=200) by decide)]at n;have o:∀ ww:World,_:=Tryz.ta_writeNode 209 (.agg #[.string nm,.slice sa sn sc]);simp only[if_neg (show ¬ (209=202) by decide)]at o;have p:∀ ww:World,_:=Tryz.ta_sayNode 209 (.agg #[.string nm,.slice sa sn sc]);simp only[if_neg (show ¬ (209=203) by decide)]at p;have q:∀ ww:World,_:=Tryz.ta_doNode 209 (.agg #[.string nm,.slice sa sn sc]);simp only[if_true]at q;obtain⟨V,a⟩:∃ V,Hid (T=V):=⟨T,(rfl:T=_)⟩;rw[a.out];go_enter func112,ntmps112;go_wp2_with (go_at_call 111;refine(HV.out _ l (Am.alloc1 (Am.refl g w) b _).1 hl (HA.out.alloc _)).mono ?_;rintro e t ⟨s,rfl,c,d,f⟩);go_end0;exact⟨s,rfl,c,d.eq a.out,(Am.alloc1 (Am.refl g w) b _).trans f⟩
def Di (k:Nat):ByteArray:=⟨(Lib.repeatL (⟨#[32,32]⟩:ByteArray).data.toList k).toArray⟩
theorem Nv (k:Nat):Di (k+1)=Di k++⟨#[32,32]⟩:=by
 apply ByteArray.ext;apply Array.toList_inj.1;rw[Lc];simp only[Di,Lib.repeatL_add,Lib.repeatL_one]
theorem Qfa (k:Nat):(Di k).size=2 * k:=by
 have h:=Lib.repeatL_length (⟨#[32,32]⟩:ByteArray).data.toList k;have e:(Di k).size=(Lib.repeatL (⟨#[32,32]⟩:ByteArray).data.toList k).length:=by simp[Di,ByteArray.size]
 rw[e,h];simp;omega
theorem Ul (g:Nat) (l:List UInt8) (hl:l.length<=20000000) (k:Nat) (hk:k<=1000) (w:World) (HA:Hid (Ao g l w)) :
  Calls prog 73 #[.pointer (some (OK g 0)),.int .i64 (k:Int)] w fun e w' => ∃ l',e = .returned (.tuple #[])/\Ao g l' w'/\Ax l (Di k).data.toList l'/\Am g w w':=by
 have m:=HA.out.lt;have p:=Qfa k;have i:∀ w:World,Calls prog 109 #[.string ⟨#[32,32]⟩,.int .i64 (k:Int)] w fun e w'=>e = .returned (.string (Di k))/\Below w.heap.size w w':=fun w=>Tryz.strings_Repeat ⟨#[32,32]⟩ k w OC (by rw[show (⟨#[32,32]⟩:ByteArray).size=2 from rfl];omega)
 have j:Hid (∀ w:World,Calls prog 109 #[.string ⟨#[32,32]⟩,.int .i64 (k:Int)] w fun e w'=>e = .returned (.string (Di k))/\Below w.heap.size w w'):=i;clear i;generalize Di k=G at *;go_enter func73,ntmps73;go_wp2_with (first
  | (go_at_call 109;refine(j.out _).mono ?_;rintro e o ⟨rfl,a⟩;have b:=HA.out.below a;have f:=(Am.refl g w).below OC a)
  | (go_at_call 36;refine(Cu g l hl G OC o b).mono ?_;rintro e q ⟨n,rfl,c,d,h⟩))
 go_end0;exact⟨n,rfl,c,d,f.trans h⟩
def Od (g:Nat) (w0:World) (v:Value) (k:Nat) (T:List UInt8):Prop :=
 ∀ (w:World) (l:List UInt8),Below g w0 w->l.length<=20000000->Ao g l w->Calls prog 74 #[.pointer (some (OK g 0)),v,.int .i64 (k:Int)] w fun e w' => ∃ l',e = .returned (.tuple #[])/\Ao g l' w'/\Ax l T l'/\Am g w w'
def Kh (g:Nat) (w0:World) (S:Value) (k:Nat) (T:List UInt8):Prop :=
 ∀ (w:World) (l:List UInt8),Below g w0 w->l.length<=20000000->Ao g l w->Calls prog 37 #[.pointer (some (OK g 0)),.agg #[S],.int .i64 (k:Int)] w fun e w' => ∃ l',e = .returned (.tuple #[])/\Ao g l' w'/\Ax l T l'/\Am g w w'
def I3 (g:Nat) (w0:World) (x:Value) (k:Nat) (T:List UInt8):Prop :=
 ∀ (w:World) (l:List UInt8),Below g w0 w->l.length<=20000000->Ao g l w->Calls prog 110 #[.pointer (some (OK g 0)),x,.int .i64 (k:Int)] w fun e w' => ∃ l',e = .returned (.tuple #[])/\Ao g l' w'/\Ax l T l'/\Am g w w'
def G6 (G:List UInt8) (xs:List (List UInt8)):List UInt8:=xs.flatMap (fun x=>G++x++[10])
theorem Qbi (G:List UInt8) (xs:List (List UInt8)) (x:List UInt8):G6 G (xs++[x])=G6 G xs++G++x++[10]:=by simp[G6]
theorem Qe8 (g:Nat) (w0:World) (S:Value) (us:List Value) (xs:List (List UInt8)) (hlen:xs.length=us.length) (hn:us.length<=100000) (k:Nat) (hk:k<=900) (P:Nat->Prop) (hP:∀ k,P k->k < g) (z:Hid (Bk P w0 S us.length us))
    (HV:Hid (∀ j (h:j < us.length) (h':j < xs.length),Od g w0 us[j] (k+1) xs[j])):Kh g w0 S k ([123,10]++G6 (Di (k+1)).data.toList xs++(Di k).data.toList++[125]):=by
  intro w l X H f;have HR:Hid (∀ w1,Am g w w1->Kv g w1 S us):=fun w1 h1=>Wn hP z.out (X.trans h1.1)
  have HA:Hid (Ao g l w):=f;have HW:Hid (Below g w0 w):=X;have W:=f.lt;clear f X;have D:∃ y K,S = .slice y us.length K:=by obtain⟨y,K,h,_⟩:=z.out;exact⟨y,K,h⟩
  obtain⟨y,K,rfl⟩:=D;clear z;obtain⟨n,O⟩:∃ n,Hid (us.length=n):=⟨us.length,(rfl:us.length=_)⟩;rw[O.out]at hn hlen;have p:Hid (∀ w1,Am g w w1->∀ j (h:j < us.length),∃ A o,y=some (OK A o)/\w1.cell? (OK A (o+j))=some us[j]):=fun w1 h1 j h=>by
    obtain⟨aa,ab,he,hj⟩:=HR.out w1 h1;injection he with h1 h2 h3;subst h1;obtain⟨A,o,h4,h5⟩:=hj j h;exact⟨A,o,h4,h5 w1 (Am.refl g w1)⟩
  clear HR;simp only[O.out];have t:((k+1:Nat):Int)=(k:Int)+1:=OC
  have N:Hid (∀ (w:World) (l:List UInt8),l.length<=20000000->Ao g l w->Calls prog 73 #[.pointer (some (OK g 0)),.int .i64 ((k:Int)+1)] w fun e w' => ∃ l',e = .returned (.tuple #[])/\Ao g l' w'/\Ax l (Di (k+1)).data.toList l'/\Am g w w'):=fun w l H f=>by
    have h:=Ul g l H (k+1) OC w f;rw[t]at h;exact h
  have Q:Hid (∀ j (h:j < us.length) (h':j < xs.length) (w:World) (l:List UInt8),Below g w0 w->l.length<=20000000->Ao g l w->Calls prog 74 #[.pointer (some (OK g 0)),us[j],.int .i64 ((k:Int)+1)] w fun e w' => ∃ l',e = .returned (.tuple #[])/\Ao g l' w'/\Ax l xs[j] l'/\Am g w w'):=fun j h h' w l hb H f=>by
    have h:=HV.out j h h' w l hb H f;rw[t]at h;exact h
  clear HV t;obtain⟨m,M⟩:∃ m,Hid ((Di (k+1)).data.toList=m):=⟨_,(rfl:(Di (k+1)).data.toList=_)⟩;rw[M.out]at N |-
  go_enter func37,ntmps37;go_wp2_with (first
    | (go_at_call 36;refine(C5 g l H ⟨#[123,10]⟩ OD (w.alloc _) (w.heap.size+1) OF (HA.out.alloc _)).mono ?_;rintro e Z ⟨J,rfl,d,a,b⟩
       have G:=b.keep (Cf w _) OC OD
       have c1:Z.cell? (OK w.heap.size 0)=some (.slice y n K):=(by rw[Lib.cell_of_heap G];rfl)
       have c:=(Am.alloc1 (Am.refl g w) W _).trans b))
  go_loopw [14] (fun i wr => ∃ (j:Nat) (v:List UInt8),i = .int .i64 (j:Int)/\j<=n/\Ao g v wr/\Ax l ([123,10]++G6 m (xs.take j)) v/\Am g w wr) (fun i _=>n - (intOf i).toNat);case atStart=>exact⟨0,J,rfl,by omega,d,a.eq (by simp[G6]),c⟩
  case round =>
    obtain⟨j,v,rfl,hj,f,B,T⟩:=hrel;have I:=B.2.2.2;clear a d G c1 c b;by_cases hjn:j < n
    · have E:j < us.length:=(by rw[O.out];exact hjn);have F:j < xs.length:=OC;obtain⟨A,o,rfl,c1⟩:=p.out wr T j E;have hE:=Q.out j E F;have D:=Qbi m (xs.take j) xs[j];have e2:xs.take j++[xs[j]]=xs.take (j+1):=(by rw[List.take_add_one,List.getElem?_eq_getElem F];rfl);rw[e2]at D;generalize xs[j]=x at *;generalize us[j]=u at *;have HE:Hid (∀ (w:World) (l:List UInt8),Below g w0 w->l.length<=20000000->Ao g l w->Calls prog 74 #[.pointer (some (OK g 0)),u,.int .i64 ((k:Int)+1)] w fun e w' => ∃ l',e = .returned (.tuple #[])/\Ao g l' w'/\Ax l x l'/\Am g w w'):=hE;have z:Hid ([123,10]++G6 m (xs.take j)++m++x++[10]=[123,10]++G6 m (xs.take (j+1))):=(by rw[Hid,D];simp);have L:Hid (Ax l ([123,10]++G6 m (xs.take j)) v):=B;clear hE e2 D B Q p;go_wp2_with (first
        | (go_at_call 73;refine(N.out _ v I f).mono ?_;rintro e Z ⟨J,rfl,d,a,b⟩
           have c:=T.trans b)
        | (go_at_call 74;refine(HE.out _ J (HW.out.trans c.1) a.2.2.2 d).mono ?_;rintro e w3 ⟨l3,rfl,R,C,U⟩
           have V:=c.trans U)
        | (go_at_call 36;refine(Cu g l3 C.2.2.2 ⟨#[10]⟩ OD _ R).mono ?_;rintro e w4 ⟨Y,rfl,q,r,s⟩))
      go_roundw;case rel=>exact⟨j+1,Y,by go_num,by omega,q,(((L.out.trans a).trans C).trans r).eq z.out,V.trans s⟩
      case measure=>simp[intOf];omega
    · have L:Hid (Ax l ([123,10]++G6 m xs) v):=B.eq (by rw[List.take_of_length_le OC]);clear Q p N B;go_wp2_with (first
        | (go_at_call 73;refine(Ul g v I k OC _ f).mono ?_;rintro e Z ⟨J,rfl,d,a,b⟩
           have c:=T.trans b)
        | (go_at_call 36;refine(Cu g J a.2.2.2 ⟨#[125]⟩ OD _ d).mono ?_;rintro e w4 ⟨Y,rfl,q,r,s⟩))
      go_end0;exact⟨Y,rfl,q,(L.out.trans a).trans r,c.trans s⟩
theorem Tryz.tn_ifNode (w:World):(Instr.typeAssert .nilIface 86 205 true).run prog w = .ok (.tuple #[.agg #[.nilIface,.slice none 0 0,.nilIface],.bool false]) w:=OE
theorem Tryz.tn_blockNode (w:World):(Instr.typeAssert .nilIface 86 51 true).run prog w = .ok (.tuple #[.agg #[.slice none 0 0],.bool false]) w:=OE
def Qpm (g:Nat) (w0:World) (v:Value) (T:List UInt8):Prop :=
 ∀ (w:World) (l:List UInt8),Below g w0 w->l.length<=20000000->Ao g l w->Calls prog 112 #[.pointer (some (OK g 0)),v] w fun e w' => ∃ l',e = .returned (.tuple #[])/\Ao g l' w'/\Ax l T l'/\Am g w w'
theorem Fy (g:Nat) (w0:World) (t:TypeId) (x:Value) (h1:¬ t=205) (h2:¬ t=207) (k:Nat) (T:List UInt8) (HS:Hid (Qpm g w0 (.iface t x) T)):Od g w0 (.iface t x) k (T++[59]):=by
 intro w l n q m;have o:Hid (Ao g l w):=m;have p:Hid (Below g w0 w):=n;clear m n;have i:∀ ww:World,_:=Tryz.ta_ifNode t x;simp only[if_neg h1]at i;have j:∀ ww:World,_:=Tryz.ta_whileNode t x;simp only[if_neg h2]at j;go_enter func74,ntmps74;go_wp2_with (first
  | (go_at_call 112;refine(HS.out _ l p.out q o.out).mono ?_;rintro e u ⟨r,rfl,b,a,f⟩)
  | (go_at_call 36;refine(Cu g r a.2.2.2 ⟨#[59]⟩ OD _ b).mono ?_;rintro e v ⟨s,rfl,c,d,h⟩))
 go_end0;exact⟨s,rfl,c,a.trans d,f.trans h⟩
theorem DdPrjWx36 {P:Prop} (h:P:=by
 go_enter func74,ntmps74
 go_wp2_with (first
  | (go_at_call 110;refine(HS.out _ l (n.out.trans (Am.alloc1 (Am.refl g w) b _).1) o (m.out.alloc _)).mono ?_;rintro e q ⟨p,rfl,f,i,j⟩))
 go_end0
 exact⟨p,rfl,f,i,(Am.alloc1 (Am.refl g w) b _).trans j⟩
 ):P:=h
theorem Qh7 (g:Nat) (w0:World) (kt:TypeId) (ky:Value) (sa:Option Addr) (sn sc:Nat) (k:Nat) (T:List UInt8) (HS:Hid (I3 g w0 (.agg #[.iface kt ky,.slice sa sn sc,.nilIface]) k T)):Od g w0 (.iface 205 (.agg #[.iface kt ky,.slice sa sn sc,.nilIface])) k T:=by
 intro w l d o a;have m:Hid (Ao g l w):=a;have n:Hid (Below g w0 w):=d;have b:=a.lt;clear a d;have c:∀ ww:World,_:=Tryz.ta_ifNode 205 (.agg #[.iface kt ky,.slice sa sn sc,.nilIface]);simp only[if_true]at c;exact DdPrjWx36
theorem Qh8 (g:Nat) (w0:World) (kt:TypeId) (ky:Value) (sa:Option Addr) (sn sc:Nat) (jt:TypeId) (jy:Value) (k:Nat) (T:List UInt8) (HS:Hid (I3 g w0 (.agg #[.iface kt ky,.slice sa sn sc,.iface jt jy]) k T)):Od g w0 (.iface 205 (.agg #[.iface kt ky,.slice sa sn sc,.iface jt jy])) k T:=by
 intro w l d o a;have m:Hid (Ao g l w):=a;have n:Hid (Below g w0 w):=d;have b:=a.lt;clear a d;have c:∀ ww:World,_:=Tryz.ta_ifNode 205 (.agg #[.iface kt ky,.slice sa sn sc,.iface jt jy]);simp only[if_true]at c;exact DdPrjWx36
theorem Qdl (g:Nat) (w0:World) (kt:TypeId) (ky:Value) (sa:Option Addr) (sn sc:Nat) (k:Nat) (T U:List UInt8) (HV:Hid (C1 g w0 (.iface kt ky) T)) (HB:Hid (Kh g w0 (.slice sa sn sc) k U)) :
    Od g w0 (.iface 207 (.agg #[.iface kt ky,.slice sa sn sc])) k (([119,104,105,108,101,32]:List UInt8)++T++([32]:List UInt8)++U):=by
  intro w l D F o;have E:Hid (Ao g l w):=o;have C:Hid (Below g w0 w):=D;have x:=o.lt;clear o D;have A:∀ ww:World,_:=Tryz.ta_ifNode 207 (.agg #[.iface kt ky,.slice sa sn sc]);simp only[if_neg (show ¬ (207=205) by decide)]at A;have B:∀ ww:World,_:=Tryz.ta_whileNode 207 (.agg #[.iface kt ky,.slice sa sn sc]);simp only[if_true]at B;obtain⟨V,a⟩:∃ V,Hid (([119,104,105,108,101,32]:List UInt8)++T++([32]:List UInt8)++U=V):=⟨_,(rfl:([119,104,105,108,101,32]:List UInt8)++T++([32]:List UInt8)++U=_)⟩;rw[a.out];go_enter func74,ntmps74;go_wp2_with (first
    | (go_at_call 36;with_reducible refine(C5 g l F ⟨#[119,104,105,108,101,32]⟩ OD (w.alloc _) (w.heap.size+1) OF (E.out.alloc _)).mono ?_;rintro e K ⟨G,rfl,p,b,f⟩
       have n:=f.keep (Cf w _) OC OD
       have N:K.cell? (OK w.heap.size 0)=some (.iface kt ky):=(by rw[Lib.cell_of_heap n];rfl)
       have j:=(Am.alloc1 (Am.refl g w) x _).trans f)
    | (go_at_call 111;refine(HV.out _ G (C.out.trans j.1) b.2.2.2 p).mono ?_;rintro e L ⟨H,rfl,q,c,h⟩
       have y:=h.keep n OC OD
       have v:=j.trans h)
    | (go_at_call 36;refine(Cu g H c.2.2.2 ⟨#[32]⟩ OD L q).mono ?_;rintro e M ⟨I,rfl,r,d,i⟩
       have z:=i.keep y OC OD
       have c4:M.cell? (OK w.heap.size 1)=some (.slice sa sn sc):=(by rw[Lib.cell_of_heap z];rfl)
       have m:=v.trans i)
    | (go_at_call 37;refine(HB.out _ I (C.out.trans m.1) d.2.2.2 r).mono ?_;rintro e O ⟨J,rfl,s,t,u⟩))
  go_end0;exact⟨J,rfl,s,(((b.trans c).trans d).trans t).eq a.out,m.trans u⟩
theorem Qkh (g:Nat) (w0:World) (kt:TypeId) (ky:Value) (sa:Option Addr) (sn sc:Nat) (k:Nat) (T U:List UInt8) (HV:Hid (C1 g w0 (.iface kt ky) T)) (HB:Hid (Kh g w0 (.slice sa sn sc) k U)) :
    I3 g w0 (.agg #[.iface kt ky,.slice sa sn sc,.nilIface]) k (([105,102,32]:List UInt8)++T++([32]:List UInt8)++U):=by
  intro w l D F q;have E:Hid (Ao g l w):=q;have C:Hid (Below g w0 w):=D;have z:=q.lt;clear q D;have K:=Tryz.tn_ifNode;have L:=Tryz.tn_blockNode;obtain⟨V,a⟩:∃ V,Hid (([105,102,32]:List UInt8)++T++([32]:List UInt8)++U=V):=⟨_,(rfl:([105,102,32]:List UInt8)++T++([32]:List UInt8)++U=_)⟩;rw[a.out];go_enter func110,ntmps110;go_wp2_with (first
    | (go_at_call 36;with_reducible refine(C5 g l F ⟨#[105,102,32]⟩ OD (w.alloc _) (w.heap.size+1) OF (E.out.alloc _)).mono ?_;rintro e M ⟨G,rfl,r,b,f⟩
       have o:=f.keep (Cf w _) OC OD
       have Q:M.cell? (OK w.heap.size 0)=some (.iface kt ky):=(by rw[Lib.cell_of_heap o];rfl)
       have m:=(Am.alloc1 (Am.refl g w) z _).trans f)
    | (go_at_call 111;refine(HV.out _ G (C.out.trans m.1) b.2.2.2 r).mono ?_;rintro e N ⟨H,rfl,s,c,h⟩
       have A:=h.keep o OC OD
       have x:=m.trans h)
    | (go_at_call 36;refine(Cu g H c.2.2.2 ⟨#[32]⟩ OD N s).mono ?_;rintro e O ⟨I,rfl,t,d,i⟩
       have p:=i.keep A OC OD
       have c4:O.cell? (OK w.heap.size 1)=some (.slice sa sn sc):=(by rw[Lib.cell_of_heap p];rfl)
       have n:=x.trans i)
    | (go_at_call 37;refine(HB.out _ I (C.out.trans n.1) d.2.2.2 t).mono ?_;rintro e P ⟨J,rfl,u,v,j⟩
       have B:=j.keep p OC OD
       have c5:P.cell? (OK w.heap.size 2)=some (.nilIface):=(by rw[Lib.cell_of_heap B];rfl)
       have y:=n.trans j))
  go_end0;exact⟨J,rfl,u,(((b.trans c).trans d).trans v).eq a.out,y⟩
theorem Qkg (g:Nat) (w0:World) (kt:TypeId) (ky:Value) (sa:Option Addr) (sn sc:Nat) (k:Nat) (T U:List UInt8) (HV:Hid (C1 g w0 (.iface kt ky) T)) (HB:Hid (Kh g w0 (.slice sa sn sc) k U)) (oa:Option Addr) (on oc:Nat) (Z:List UInt8) (HO:Hid (Kh g w0 (.slice oa on oc) k Z)) :
    I3 g w0 (.agg #[.iface kt ky,.slice sa sn sc,.iface 51 (.agg #[.slice oa on oc])]) k (([105,102,32]:List UInt8)++T++([32]:List UInt8)++U++([32,101,108,115,101,32]:List UInt8)++Z):=by
  intro w l R Y F;have Q:Hid (Ao g l w):=F;have E:Hid (Below g w0 w):=R;have K:=F.lt;clear F R;have O:∀ ww:World,_:=Tryz.ta_ifNode 51 (.agg #[.slice oa on oc]);simp only[if_neg (show ¬ (51=205) by decide)]at O;have P:∀ ww:World,_:=Tryz.ta_blockNode 51 (.agg #[.slice oa on oc]);simp only[if_true]at P;obtain⟨V,c⟩:∃ V,Hid (([105,102,32]:List UInt8)++T++([32]:List UInt8)++U++([32,101,108,115,101,32]:List UInt8)++Z=V):=⟨_,(rfl:([105,102,32]:List UInt8)++T++([32]:List UInt8)++U++([32,101,108,115,101,32]:List UInt8)++Z=_)⟩;rw[c.out];go_enter func110,ntmps110;go_wp2_with (first
    | (go_at_call 36;with_reducible refine(C5 g l Y ⟨#[105,102,32]⟩ OD (w.alloc _) (w.heap.size+1) OF (Q.out.alloc _)).mono ?_;rintro e w2 ⟨l2,rfl,d,m,r⟩
       have B:=r.keep (Cf w _) OC OD
       have c1:w2.cell? (OK w.heap.size 0)=some (.iface kt ky):=(by rw[Lib.cell_of_heap B];rfl)
       have x:=(Am.alloc1 (Am.refl g w) K _).trans r)
    | (go_at_call 111;refine(HV.out _ l2 (E.out.trans x.1) m.2.2.2 d).mono ?_;rintro e w3 ⟨l3,rfl,f,n,s⟩
       have L:=s.keep B OC OD
       have J:=x.trans s)
    | (go_at_call 36;refine(Cu g l3 n.2.2.2 ⟨#[32]⟩ OD w3 f).mono ?_;rintro e w4 ⟨l4,rfl,h,o,t⟩
       have C:=t.keep L OC OD
       have c4:w4.cell? (OK w.heap.size 1)=some (.slice sa sn sc):=(by rw[Lib.cell_of_heap C];rfl)
       have y:=J.trans t)
    | (go_at_call 37;refine(HB.out _ l4 (E.out.trans y.1) o.2.2.2 h).mono ?_;rintro e a ⟨S,rfl,i,p,u⟩
       have M:=u.keep C OC OD
       have c5:a.cell? (OK w.heap.size 2)=some (.iface 51 (.agg #[.slice oa on oc])):=(by rw[Lib.cell_of_heap M];rfl)
       have z:=y.trans u
       have aa:=z.1.size
       have b:Hid (Ao g S a):=i
       clear d f h i Q)
    | (go_at_call 36;refine(C5 g S p.2.2.2 ⟨#[32,101,108,115,101,32]⟩ OD (a.alloc _) (a.heap.size+1) OF (b.out.alloc _)).mono ?_;rintro e X ⟨W,rfl,j,q,v⟩
       have N:=v.keep (Cf a _) OC OD
       have d0:X.cell? (OK a.heap.size 0)=some (.slice oa on oc):=(by rw[Lib.cell_of_heap N];rfl)
       have A:=(z.alloc OC _).trans v
       have D:Hid (Ao g W X):=j
       clear j b)
    | (go_at_call 37;refine(HO.out _ W (E.out.trans A.1) q.2.2.2 D.out).mono ?_;rintro e w7 ⟨l7,rfl,G,H,I⟩))
  go_end0;exact⟨l7,rfl,G,(((((m.trans n).trans o).trans p).trans q).trans H).eq c.out,A.trans I⟩
theorem Qh4 (g:Nat) (w0:World) (kt:TypeId) (ky:Value) (sa:Option Addr) (sn sc:Nat) (k:Nat) (T U:List UInt8) (HV:Hid (C1 g w0 (.iface kt ky) T)) (HB:Hid (Kh g w0 (.slice sa sn sc) k U)) (jt:TypeId) (jy:Value) (oa:Option Addr) (on oc:Nat) (Z:List UInt8) (HO:Hid (I3 g w0 (.agg #[.iface jt jy,.slice oa on oc,.nilIface]) k Z)) :
    I3 g w0 (.agg #[.iface kt ky,.slice sa sn sc,.iface 205 (.agg #[.iface jt jy,.slice oa on oc,.nilIface])]) k (([105,102,32]:List UInt8)++T++([32]:List UInt8)++U++([32,101,108,115,101,32]:List UInt8)++Z):=by
  intro w l R X H;have Q:Hid (Ao g l w):=H;have G:Hid (Below g w0 w):=R;have M:=H.lt;clear H R;have P:∀ ww:World,_:=Tryz.ta_ifNode 205 (.agg #[.iface jt jy,.slice oa on oc,.nilIface]);simp only[if_true]at P;obtain⟨V,d⟩:∃ V,Hid (([105,102,32]:List UInt8)++T++([32]:List UInt8)++U++([32,101,108,115,101,32]:List UInt8)++Z=V):=⟨_,(rfl:([105,102,32]:List UInt8)++T++([32]:List UInt8)++U++([32,101,108,115,101,32]:List UInt8)++Z=_)⟩;rw[d.out];go_enter func110,ntmps110;go_wp2_with (first
    | (go_at_call 36;with_reducible refine(C5 g l X ⟨#[105,102,32]⟩ OD (w.alloc _) (w.heap.size+1) OF (Q.out.alloc _)).mono ?_;rintro e w2 ⟨l2,rfl,f,n,s⟩
       have C:=s.keep (Cf w _) OC OD
       have c1:w2.cell? (OK w.heap.size 0)=some (.iface kt ky):=(by rw[Lib.cell_of_heap C];rfl)
       have y:=(Am.alloc1 (Am.refl g w) M _).trans s)
    | (go_at_call 111;refine(HV.out _ l2 (G.out.trans y.1) n.2.2.2 f).mono ?_;rintro e w3 ⟨l3,rfl,h,o,t⟩
       have N:=t.keep C OC OD
       have L:=y.trans t)
    | (go_at_call 36;refine(Cu g l3 o.2.2.2 ⟨#[32]⟩ OD w3 h).mono ?_;rintro e w4 ⟨l4,rfl,i,p,u⟩
       have D:=u.keep N OC OD
       have c4:w4.cell? (OK w.heap.size 1)=some (.slice sa sn sc):=(by rw[Lib.cell_of_heap D];rfl)
       have z:=L.trans u)
    | (go_at_call 37;refine(HB.out _ l4 (G.out.trans z.1) p.2.2.2 i).mono ?_;rintro e a ⟨S,rfl,j,q,v⟩
       have O:=v.keep D OC OD
       have c5:a.cell? (OK w.heap.size 2)=some (.iface 205 (.agg #[.iface jt jy,.slice oa on oc,.nilIface])):=(by rw[Lib.cell_of_heap O];rfl)
       have A:=z.trans v
       have Y:=A.1.size
       have c:Hid (Ao g S a):=j
       clear f h i j Q)
    | (go_at_call 36;refine(C5 g S q.2.2.2 ⟨#[32,101,108,115,101,32]⟩ OD (a.alloc _) (a.heap.size+1) OF (c.out.alloc _)).mono ?_;rintro e E ⟨W,rfl,m,r,x⟩
       have b:=x.keep (Cf a _) OC OD
       have d0:E.cell? (OK a.heap.size 0)=some (.iface jt jy):=(by rw[Lib.cell_of_heap b];rfl)
       have d1:E.cell? (OK a.heap.size 1)=some (.slice oa on oc):=(by rw[Lib.cell_of_heap b];rfl)
       have d2:E.cell? (OK a.heap.size 2)=some (.nilIface):=(by rw[Lib.cell_of_heap b];rfl)
       have B:=(A.alloc OC _).trans x
       have F:Hid (Ao g W E):=m
       clear m c)
    | (go_at_call 110;refine(HO.out _ W (G.out.trans B.1) r.2.2.2 F.out).mono ?_;rintro e w7 ⟨l7,rfl,I,J,K⟩))
  go_end0;exact⟨l7,rfl,I,(((((n.trans o).trans p).trans q).trans r).trans J).eq d.out,B.trans K⟩
theorem Qh5 (g:Nat) (w0:World) (kt:TypeId) (ky:Value) (sa:Option Addr) (sn sc:Nat) (k:Nat) (T U:List UInt8) (HV:Hid (C1 g w0 (.iface kt ky) T)) (HB:Hid (Kh g w0 (.slice sa sn sc) k U)) (jt:TypeId) (jy:Value) (oa:Option Addr) (on oc:Nat) (qt:TypeId) (qy:Value) (Z:List UInt8) (HO:Hid (I3 g w0 (.agg #[.iface jt jy,.slice oa on oc,.iface qt qy]) k Z)) :
    I3 g w0 (.agg #[.iface kt ky,.slice sa sn sc,.iface 205 (.agg #[.iface jt jy,.slice oa on oc,.iface qt qy])]) k (([105,102,32]:List UInt8)++T++([32]:List UInt8)++U++([32,101,108,115,101,32]:List UInt8)++Z):=by
  intro w l R X H;have Q:Hid (Ao g l w):=H;have G:Hid (Below g w0 w):=R;have M:=H.lt;clear H R;have P:∀ ww:World,_:=Tryz.ta_ifNode 205 (.agg #[.iface jt jy,.slice oa on oc,.iface qt qy]);simp only[if_true]at P;obtain⟨V,d⟩:∃ V,Hid (([105,102,32]:List UInt8)++T++([32]:List UInt8)++U++([32,101,108,115,101,32]:List UInt8)++Z=V):=⟨_,(rfl:([105,102,32]:List UInt8)++T++([32]:List UInt8)++U++([32,101,108,115,101,32]:List UInt8)++Z=_)⟩;rw[d.out];go_enter func110,ntmps110;go_wp2_with (first
    | (go_at_call 36;with_reducible refine(C5 g l X ⟨#[105,102,32]⟩ OD (w.alloc _) (w.heap.size+1) OF (Q.out.alloc _)).mono ?_;rintro e w2 ⟨l2,rfl,f,n,s⟩
       have C:=s.keep (Cf w _) OC OD
       have c1:w2.cell? (OK w.heap.size 0)=some (.iface kt ky):=(by rw[Lib.cell_of_heap C];rfl)
       have y:=(Am.alloc1 (Am.refl g w) M _).trans s)
    | (go_at_call 111;refine(HV.out _ l2 (G.out.trans y.1) n.2.2.2 f).mono ?_;rintro e w3 ⟨l3,rfl,h,o,t⟩
       have N:=t.keep C OC OD
       have L:=y.trans t)
    | (go_at_call 36;refine(Cu g l3 o.2.2.2 ⟨#[32]⟩ OD w3 h).mono ?_;rintro e w4 ⟨l4,rfl,i,p,u⟩
       have D:=u.keep N OC OD
       have c4:w4.cell? (OK w.heap.size 1)=some (.slice sa sn sc):=(by rw[Lib.cell_of_heap D];rfl)
       have z:=L.trans u)
    | (go_at_call 37;refine(HB.out _ l4 (G.out.trans z.1) p.2.2.2 i).mono ?_;rintro e a ⟨S,rfl,j,q,v⟩
       have O:=v.keep D OC OD
       have c5:a.cell? (OK w.heap.size 2)=some (.iface 205 (.agg #[.iface jt jy,.slice oa on oc,.iface qt qy])):=(by rw[Lib.cell_of_heap O];rfl)
       have A:=z.trans v
       have Y:=A.1.size
       have c:Hid (Ao g S a):=j
       clear f h i j Q)
    | (go_at_call 36;refine(C5 g S q.2.2.2 ⟨#[32,101,108,115,101,32]⟩ OD (a.alloc _) (a.heap.size+1) OF (c.out.alloc _)).mono ?_;rintro e E ⟨W,rfl,m,r,x⟩
       have b:=x.keep (Cf a _) OC OD
       have d0:E.cell? (OK a.heap.size 0)=some (.iface jt jy):=(by rw[Lib.cell_of_heap b];rfl)
       have d1:E.cell? (OK a.heap.size 1)=some (.slice oa on oc):=(by rw[Lib.cell_of_heap b];rfl)
       have d2:E.cell? (OK a.heap.size 2)=some (.iface qt qy):=(by rw[Lib.cell_of_heap b];rfl)
       have B:=(A.alloc OC _).trans x
       have F:Hid (Ao g W E):=m
       clear m c)
    | (go_at_call 110;refine(HO.out _ W (G.out.trans B.1) r.2.2.2 F.out).mono ?_;rintro e w7 ⟨l7,rfl,I,J,K⟩))
  go_end0;exact⟨l7,rfl,I,(((((n.trans o).trans p).trans q).trans r).trans J).eq d.out,B.trans K⟩
end Go.Proofs.YtjlaedokfbcbpaaGreatDoor
