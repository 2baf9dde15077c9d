import Derived.Test.YtjlaedokfbcbpaaGreatDoorKPrjA
import Derived.Test.YtjlaedokfbcbpaaGreatDoorPrjS
import Derived.Lib.LaidTab
import Derived.Lib.AppendIntMem
import Derived.Lib.AtoiErrMem
set_option maxRecDepth 100000
set_option maxHeartbeats 2000000
namespace Go.Proofs.YtjlaedokfbcbpaaGreatDoor
open Go.RowKit Proofs.Tryz
theorem Ao.below {g:Nat} {l:List UInt8} {w w':World} (h:Ao g l w) (hb:Below w.heap.size w w'):Ao g l w':=by
 have d:∀ p,Lib.BuilderAtF 47 5 g g p (Lib.byteCells l) w->Lib.BuilderAtF 47 5 g g p (Lib.byteCells l) w':=by
  rintro p ⟨n,v,b,a,j⟩;refine⟨n,v,(hb.block g (Array.getElem?_eq_some_iff.1 b).1).trans b,⟨a.1, ?_⟩,j⟩;rcases a.2 with q|⟨k,f,i,m,r,o,c,rest⟩
  ·exact .inl q
  ·exact .inr ⟨k,f,i,m,r,o,(hb.block k (Array.getElem?_eq_some_iff.1 c).1).trans c,rest⟩
 rcases h with h|h
 ·exact .inl (d _ h)
 ·exact .inr (d _ h)
theorem Am.below {g:Nat} {w w1 w2:World} (h:Am g w w1) (hg:g<=w.heap.size) (hb:Below w1.heap.size w1 w2):Am g w w2 :=
 ⟨h.1.trans (hb.mono (Nat.le_trans hg h.1.size)),fun k o hk hkb ho=>(hb.block k (Array.getElem?_eq_some_iff.1 (h.2 k o hk hkb ho)).1).trans (h.2 k o hk hkb ho)⟩
theorem Am.keep {g k:Nat} {W w2:World} {cs:Array Value} {T:TypeId} (h:Am g W w2) (hk:W.heap[k]? = some (.cells cs T (0,0))) (hne:k≠g) (hT:T≠5):w2.heap[k]? = some (.cells cs T (0,0)) :=
 h.2 k _ hk (by simpa using hne) (fun c fz hcc=>by injection hcc with _ h2;exact hT h2)
theorem Ws (g:Nat) (l:List UInt8) (hl:l.length<=20000000) (hf:¬ 12000 < l.length) (x:ByteArray) (hx:x.size<=1048576) (w:World) (HA:Hid (Ao g l w)) :
    Calls prog 111 #[.pointer (some (OK g 0)),.iface 173 (.agg #[.string x])] w fun e w' => ∃ l',e = .returned (.tuple #[])/\Ao g l' w'/\Ax l ((Hg x).data.toList) l'/\Am g w w':=by
  have j:=HA.out.lt;have b:=HA.out;have m:∀ ww:World,_:=Tryz.ta_intNode 173 (.agg #[.string x]);simp only[if_neg (show ¬ (173=171) by decide)]at m;have n:∀ ww:World,_:=Tryz.ta_textNode 173 (.agg #[.string x]);simp only[if_true]at n;go_enter func111,ntmps111;have k:(Hg x).size<=15000000:=by have:=Vs x;omega
  go_wp2_with (first
    | (go_at_call 15;refine(F5 false g l OC (decide_eq_false hf) _ b).mono ?_;rintro e q ⟨rfl,rfl⟩)
    | (go_at_call 140;refine(Qdk x hx _).mono ?_;rintro e o ⟨rfl,a⟩
       have d:Ao g l o:=(HA.out.alloc _).below a
       have i:Am g w o:=(Am.alloc1 (Am.refl g w) j _).below OC a)
    | (go_at_call 36;refine(C5 g l hl _ k o _ rfl d).mono ?_;rintro e r ⟨p,rfl,c,f,h⟩))
  go_end0;exact⟨p,rfl,c,f,i.trans h⟩
theorem Wp (g:Nat) (l:List UInt8) (hl:l.length<=20000000) (hf:¬ 12000 < l.length) (w:World) (x:ByteArray) (_hx:x.size<=15000000) (sa:Option Addr) (sn sc:Nat) (T:List UInt8) (HC:Hid (∀ b:World,Am g w b->Ao g l b->Calls prog 143 #[.pointer (some (OK g 0)),.string x,.slice sa sn sc] b fun e w' => ∃ l',e = .returned (.tuple #[])/\Ao g l' w'/\Ax l T l'/\Am g b w')) (HA:Hid (Ao g l w)) :
  Calls prog 111 #[.pointer (some (OK g 0)),.iface 183 (.agg #[.string x,.slice sa sn sc])] w fun e w' => ∃ l',e = .returned (.tuple #[])/\Ao g l' w'/\Ax l (T) l'/\Am g w w':=by
 have a:=HA.out.lt;have c:=HA.out;have i:∀ ww:World,_:=Tryz.ta_intNode 183 (.agg #[.string x,.slice sa sn sc]);simp only[if_neg (show ¬ (183=171) by decide)]at i;have j:∀ ww:World,_:=Tryz.ta_textNode 183 (.agg #[.string x,.slice sa sn sc]);simp only[if_neg (show ¬ (183=173) by decide)]at j;have k:∀ ww:World,_:=Tryz.ta_boolNode 183 (.agg #[.string x,.slice sa sn sc]);simp only[if_neg (show ¬ (183=175) by decide)]at k;have m:∀ ww:World,_:=Tryz.ta_nameNode 183 (.agg #[.string x,.slice sa sn sc]);simp only[if_neg (show ¬ (183=177) by decide)]at m;have n:∀ ww:World,_:=Tryz.ta_unNode 183 (.agg #[.string x,.slice sa sn sc]);simp only[if_neg (show ¬ (183=179) by decide)]at n;have o:∀ ww:World,_:=Tryz.ta_binNode 183 (.agg #[.string x,.slice sa sn sc]);simp only[if_neg (show ¬ (183=181) by decide)]at o;have p:∀ ww:World,_:=Tryz.ta_callNode 183 (.agg #[.string x,.slice sa sn sc]);simp only[if_true]at p;go_enter func111,ntmps111;go_wp2_with (first
  | (go_at_call 15;refine(F5 false g l OC (decide_eq_false hf) _ c).mono ?_;rintro e b ⟨rfl,rfl⟩)
  | (go_at_call 143;refine(HC.out _ (Am.alloc1 (Am.refl g w) a _) (HA.out.alloc _)).mono ?_;rintro e r ⟨q,rfl,d,f,h⟩))
 go_end0;exact⟨q,rfl,d,f,(Am.alloc1 (Am.refl g w) a _).trans h⟩
def Rk (g:Nat) (w0:World) (v:Value) (T:List UInt8):Prop :=
 ∀ (w:World) (l:List UInt8),Below g w0 w->l.length<=20000000->Ao g l w->Calls prog 142 #[.pointer (some (OK g 0)),v] w fun e w' => ∃ l',e = .returned (.tuple #[])/\Ao g l' w'/\Ax l T l'/\Am g w w'
theorem Zx (g:Nat) (l:List UInt8) (hl:l.length<=20000000) (hf:¬ 12000 < l.length) (w:World) (m:Nat) (hm:1<=m/\m<=3) (kt:TypeId) (ky:Value) (T:List UInt8) (HTb:Hid (E0 g w)) (HK:Hid (Rk g w (.iface kt ky) T)) (HA:Hid (Ao g l w)) :
    Calls prog 111 #[.pointer (some (OK g 0)),.iface 179 (.agg #[.int .i64 (m:Int),.iface kt ky])] w fun e w' => ∃ l',e = .returned (.tuple #[])/\Ao g l' w'/\Ax l ((E3 (m:Int)).data.toList++T) l'/\Am g w w':=by
  have n:=HA.out.lt;have d:=HA.out;have p:∀ ww:World,_:=Tryz.ta_intNode 179 (.agg #[.int .i64 (m:Int),.iface kt ky]);simp only[if_neg (show ¬ (179=171) by decide)]at p;have q:∀ ww:World,_:=Tryz.ta_textNode 179 (.agg #[.int .i64 (m:Int),.iface kt ky]);simp only[if_neg (show ¬ (179=173) by decide)]at q;have r:∀ ww:World,_:=Tryz.ta_boolNode 179 (.agg #[.int .i64 (m:Int),.iface kt ky]);simp only[if_neg (show ¬ (179=175) by decide)]at r;have s:∀ ww:World,_:=Tryz.ta_nameNode 179 (.agg #[.int .i64 (m:Int),.iface kt ky]);simp only[if_neg (show ¬ (179=177) by decide)]at s;have t:∀ ww:World,_:=Tryz.ta_unNode 179 (.agg #[.int .i64 (m:Int),.iface kt ky]);simp only[if_true]at t;have x:=Qa (m:Int);have k:∀ ob:Obj,Below g w (w.alloc ob):=fun ob=>(OO w).alloc OC ob
  have v:∀ ob:Obj,(w.alloc ob).cell? (OK 3 m)=some (.string (E3 (m:Int))):=fun ob=>(HTb.out.below (k ob)).un m hm.1 hm.2
  have u:(m:Int) < 4:=OC
  go_enter func111,ntmps111;go_wp2_with (first
    | (go_at_call 15;refine(F5 false g l OC (decide_eq_false hf) _ d).mono ?_;rintro e C ⟨rfl,rfl⟩)
    | (go_at_call 36;refine(C5 g l hl _ OC (w.alloc _) (w.heap.size+1) OF (HA.out.alloc _)).mono ?_;rintro e A ⟨y,rfl,f,a,b⟩
       have o:=b.keep (Cf w _) OC OD
       have B:A.cell? (OK w.heap.size 1)=some (.iface kt ky):=(by rw[Lib.cell_of_heap o];rfl)
       have c:=(Am.alloc1 (Am.refl g w) n _).trans b)
    | (go_at_call 142;refine(HK.out _ y c.1 a.2.2.2 f).mono ?_;rintro e D ⟨z,rfl,h,i,j⟩))
  go_end0;exact⟨z,rfl,h,a.trans i,c.trans j⟩
theorem Yn (g:Nat) (l:List UInt8) (hl:l.length<=20000000) (hf:¬ 12000 < l.length) (w:World) (m:Nat) (hm:1<=m/\m<=18) (kt jt:TypeId) (ky jy:Value) (T U:List UInt8) (HTb:Hid (E0 g w)) (HK:Hid (Rk g w (.iface kt ky) T)) (HJ:Hid (Rk g w (.iface jt jy) U)) (HA:Hid (Ao g l w)) :
    Calls prog 111 #[.pointer (some (OK g 0)),.iface 181 (.agg #[.int .i64 (m:Int),.iface kt ky,.iface jt jy])] w fun e w' => ∃ l',e = .returned (.tuple #[])/\Ao g l' w'/\Ax l (T++([32]++(C0 (m:Int)).data.toList++[32])++U) l'/\Am g w w':=by
  have j:=HA.out.lt;have n:=HA.out;have u:∀ ww:World,_:=Tryz.ta_intNode 181 (.agg #[.int .i64 (m:Int),.iface kt ky,.iface jt jy]);simp only[if_neg (show ¬ (181=171) by decide)]at u;have v:∀ ww:World,_:=Tryz.ta_textNode 181 (.agg #[.int .i64 (m:Int),.iface kt ky,.iface jt jy]);simp only[if_neg (show ¬ (181=173) by decide)]at v;have x:∀ ww:World,_:=Tryz.ta_boolNode 181 (.agg #[.int .i64 (m:Int),.iface kt ky,.iface jt jy]);simp only[if_neg (show ¬ (181=175) by decide)]at x;have y:∀ ww:World,_:=Tryz.ta_nameNode 181 (.agg #[.int .i64 (m:Int),.iface kt ky,.iface jt jy]);simp only[if_neg (show ¬ (181=177) by decide)]at y;have z:∀ ww:World,_:=Tryz.ta_unNode 181 (.agg #[.int .i64 (m:Int),.iface kt ky,.iface jt jy]);simp only[if_neg (show ¬ (181=179) by decide)]at z;have A:∀ ww:World,_:=Tryz.ta_binNode 181 (.agg #[.int .i64 (m:Int),.iface kt ky,.iface jt jy]);simp only[if_true]at A;have E:=Om (m:Int);have C:(m:Int) < 19:=OC
  obtain⟨V,a⟩:∃ V,Hid (T++([32]++(C0 (m:Int)).data.toList++[32])++U=V):=⟨T++([32]++(C0 (m:Int)).data.toList++[32])++U,(rfl:T++([32]++(C0 (m:Int)).data.toList++[32])++U=_)⟩;rw[a.out];go_enter func111,ntmps111;go_wp2_with (first
    | (go_at_call 15;refine(F5 false g l OC (decide_eq_false hf) _ n).mono ?_;rintro e L ⟨rfl,rfl⟩)
    | (go_at_call 142;refine(HK.out _ l (Am.alloc1 (Am.refl g w) j _).1 hl (HA.out.alloc _)).mono ?_;rintro e B ⟨F,rfl,o,b,d⟩
       have k:=d.keep (Cf w _) OC OD
       have J:B.cell? (OK w.heap.size 0)=some (.int .i64 (m:Int)):=(by rw[Lib.cell_of_heap k];rfl)
       have h:=(Am.alloc1 (Am.refl g w) j _).trans d
       have D:=(HTb.out.below h.1).bin m hm.1 hm.2))
  refine(Yh g F b.2.2.2 ⟨#[32]⟩ (C0 (m:Int)) ⟨#[32]⟩ OD OC OD B o).mono ?_;rintro e I ⟨G,rfl,p,c,f⟩;have t:=f.keep k OC OD;have K:I.cell? (OK w.heap.size 2)=some (.iface jt jy):=by rw[Lib.cell_of_heap t];rfl
  have i:=h.trans f;go_wp2_with (go_at_call 142;refine(HJ.out _ G i.1 c.2.2.2 p).mono ?_;rintro e M ⟨H,rfl,q,r,s⟩);go_end0;exact⟨H,rfl,q,((b.trans c).trans r).eq a.out,i.trans s⟩
theorem U7 (g:Nat) (l:List UInt8) (hl:l.length<=20000000) (hf:¬ 12000 < l.length) (w:World) (m:Nat) (hm:1<=m/\m<=12) (sa:Option Addr) (sn sc:Nat) (T:List UInt8) (HTb:Hid (E0 g w)) (HC:Hid (∀ h:World,Am g w h->Ao g l h->Calls prog 143 #[.pointer (some (OK g 0)),.string (Av (m:Int)),.slice sa sn sc] h fun e w' => ∃ l',e = .returned (.tuple #[])/\Ao g l' w'/\Ax l T l'/\Am g h w')) (HA:Hid (Ao g l w)) :
  Calls prog 111 #[.pointer (some (OK g 0)),.iface 188 (.agg #[.int .i64 (m:Int),.slice sa sn sc])] w fun e w' => ∃ l',e = .returned (.tuple #[])/\Ao g l' w'/\Ax l (T) l'/\Am g w w':=by
 have d:=HA.out.lt;have i:=HA.out;have q:∀ ww:World,_:=Tryz.ta_intNode 188 (.agg #[.int .i64 (m:Int),.slice sa sn sc]);simp only[if_neg (show ¬ (188=171) by decide)]at q;have r:∀ ww:World,_:=Tryz.ta_textNode 188 (.agg #[.int .i64 (m:Int),.slice sa sn sc]);simp only[if_neg (show ¬ (188=173) by decide)]at r;have s:∀ ww:World,_:=Tryz.ta_boolNode 188 (.agg #[.int .i64 (m:Int),.slice sa sn sc]);simp only[if_neg (show ¬ (188=175) by decide)]at s;have t:∀ ww:World,_:=Tryz.ta_nameNode 188 (.agg #[.int .i64 (m:Int),.slice sa sn sc]);simp only[if_neg (show ¬ (188=177) by decide)]at t;have u:∀ ww:World,_:=Tryz.ta_unNode 188 (.agg #[.int .i64 (m:Int),.slice sa sn sc]);simp only[if_neg (show ¬ (188=179) by decide)]at u;have v:∀ ww:World,_:=Tryz.ta_binNode 188 (.agg #[.int .i64 (m:Int),.slice sa sn sc]);simp only[if_neg (show ¬ (188=181) by decide)]at v;have x:∀ ww:World,_:=Tryz.ta_callNode 188 (.agg #[.int .i64 (m:Int),.slice sa sn sc]);simp only[if_neg (show ¬ (188=183) by decide)]at x;have y:∀ ww:World,_:=Tryz.ta_builtNode 188 (.agg #[.int .i64 (m:Int),.slice sa sn sc]);simp only[if_true]at y;have o:∀ ob:Obj,Below g w (w.alloc ob):=fun ob=>(OO w).alloc OC ob
 have p:∀ ob:Obj,(w.alloc ob).cell? (OK 2 (m * 2))=some (.string (Av (m:Int))):=fun ob=>(HTb.out.below (o ob)).built m hm.1 hm.2
 have G:(m:Int) < 13:=OC
 go_enter func111,ntmps111;have c:(w.alloc (.cells #[.int .i64 (m:Int),.slice sa sn sc] 188)).drew.heap[w.heap.size]? = some (.cells #[.int .i64 (m:Int),.slice sa sn sc] 188 (0,0)):=Cf w _;have A:(w.alloc (.cells #[.int .i64 (m:Int),.slice sa sn sc] 188)).drew.cell? (OK w.heap.size 0)=some (.int .i64 (m:Int)):=by rw[Lib.cell_of_heap c];rfl
 have B:(w.alloc (.cells #[.int .i64 (m:Int),.slice sa sn sc] 188)).drew.cell? (OK w.heap.size 1)=some (.slice sa sn sc):=by rw[Lib.cell_of_heap c];rfl
 have C:(w.alloc (.cells #[.int .i64 (m:Int),.slice sa sn sc] 188)).drew.cell? (OK 2 (m * 2))=some (.string (Av (m:Int))):=p _;have b:Am g w (w.alloc (.cells #[.int .i64 (m:Int),.slice sa sn sc] 188)).drew:=⟨(Am.alloc1 (Am.refl g w) d _).1.drew,(Am.alloc1 (Am.refl g w) d _).2.drew⟩;have k:Ao g l (w.alloc (.cells #[.int .i64 (m:Int),.slice sa sn sc] 188)).drew:=(HA.out.alloc _).below (OO _).drew;go_wp2_with (go_at_call 15;refine(F5 false g l OC (decide_eq_false hf) _ i).mono ?_;rintro e h ⟨rfl,rfl⟩);go_region_held3 (fun w'=>w'.cell? (OK w.heap.size 0)=some (.int .i64 (m:Int))/\w'.cell? (OK w.heap.size 1)=some (.slice sa sn sc)/\w'.cell? (OK 2 (m * 2))=some (.string (Av (m:Int)))) (with_reducible first|exact⟨A,B,C⟩|exact⟨D,E,F⟩) (first
  | (go_at_call 143;refine(HC.out _ b k).mono ?_;rintro e z ⟨H,rfl,j,n,a⟩;have f:=a.keep c OC OD;have D:z.cell? (OK w.heap.size 0)=some (.int .i64 (m:Int)):=(by rw[Lib.cell_of_heap f];rfl);have E:z.cell? (OK w.heap.size 1)=some (.slice sa sn sc):=(by rw[Lib.cell_of_heap f];rfl);have F:=(HTb.out.below (b.trans a).1).built m hm.1 hm.2))
 go_wp2;go_end0;exact⟨H,rfl,j,n,b.trans a⟩
def Rl (b:Bool):ByteArray:=if b=true then ⟨#[116,114,117,101]⟩ else ⟨#[102,97,108,115,101]⟩
theorem Yd (b:Bool) (w:World):Calls prog 173 #[.bool b] w fun e w'=>e = .returned (.string (Rl b))/\w=w':=by
 cases b
 all_goals
  go_enter func173,ntmps173;go_wp2;go_ret;exact⟨rfl,rfl⟩
theorem Qdi (b:Bool) (w:World):Calls prog 141 #[.bool b] w fun e w'=>e = .returned (.string (Rl b))/\w=w':=by
 go_enter func141,ntmps141;go_wp2_with (go_at_call 173;refine(Yd b _).mono ?_;rintro e w' ⟨rfl,rfl⟩);go_ret;exact⟨rfl,rfl⟩
theorem Wo (g:Nat) (l:List UInt8) (hl:l.length<=20000000) (hf:¬ 12000 < l.length) (b:Bool) (w:World) (HA:Hid (Ao g l w)) :
  Calls prog 111 #[.pointer (some (OK g 0)),.iface 175 (.agg #[.bool b])] w fun e w' => ∃ l',e = .returned (.tuple #[])/\Ao g l' w'/\Ax l ((Rl b).data.toList) l'/\Am g w w':=by
 have h:=HA.out.lt;have a:=HA.out;have i:∀ ww:World,_:=Tryz.ta_intNode 175 (.agg #[.bool b]);simp only[if_neg (show ¬ (175=171) by decide)]at i;have j:∀ ww:World,_:=Tryz.ta_textNode 175 (.agg #[.bool b]);simp only[if_neg (show ¬ (175=173) by decide)]at j;have k:∀ ww:World,_:=Tryz.ta_boolNode 175 (.agg #[.bool b]);simp only[if_true]at k;go_enter func111,ntmps111;go_wp2_with (first
  | (go_at_call 15;refine(F5 false g l OC (decide_eq_false hf) _ a).mono ?_;rintro e n ⟨rfl,rfl⟩)
  | (go_at_call 141;refine(Qdi b _).mono ?_;rintro e p ⟨rfl,rfl⟩)
  | (go_at_call 36;refine(C5 g l hl _ (by cases b <;> decide) (w.alloc _) (w.heap.size+1) OF (HA.out.alloc _)).mono ?_;rintro e o ⟨m,rfl,c,d,f⟩))
 go_end0;exact⟨m,rfl,c,d,(Am.alloc1 (Am.refl g w) h _).trans f⟩
theorem Wq (g:Nat) (l:List UInt8) (hl:l.length<=20000000) (hf:¬ 12000 < l.length) (w:World) (m:Nat) (hm:m<=10) (kt:TypeId) (ky:Value) (T:List UInt8) (HTb:Hid (E0 g w)) (HC:Hid (∀ (h:World) (v:Value),Am g w h->Ao g l h->Kv g h v [.iface kt ky]->Calls prog 143 #[.pointer (some (OK g 0)),.string (Ag (m:Int)),v] h fun e w' => ∃ l',e = .returned (.tuple #[])/\Ao g l' w'/\Ax l T l'/\Am g h w')) (HA:Hid (Ao g l w)) :
  Calls prog 111 #[.pointer (some (OK g 0)),.iface 190 (.agg #[.int .i64 (m:Int),.iface kt ky])] w fun e w' => ∃ l',e = .returned (.tuple #[])/\Ao g l' w'/\Ax l (T) l'/\Am g w w':=by
 have c:=HA.out.lt;have o:=HA.out;have y:∀ ww:World,_:=Tryz.ta_intNode 190 (.agg #[.int .i64 (m:Int),.iface kt ky]);simp only[if_neg (show ¬ (190=171) by decide)]at y;have z:∀ ww:World,_:=Tryz.ta_textNode 190 (.agg #[.int .i64 (m:Int),.iface kt ky]);simp only[if_neg (show ¬ (190=173) by decide)]at z;have A:∀ ww:World,_:=Tryz.ta_boolNode 190 (.agg #[.int .i64 (m:Int),.iface kt ky]);simp only[if_neg (show ¬ (190=175) by decide)]at A;have B:∀ ww:World,_:=Tryz.ta_nameNode 190 (.agg #[.int .i64 (m:Int),.iface kt ky]);simp only[if_neg (show ¬ (190=177) by decide)]at B;have C:∀ ww:World,_:=Tryz.ta_unNode 190 (.agg #[.int .i64 (m:Int),.iface kt ky]);simp only[if_neg (show ¬ (190=179) by decide)]at C;have D:∀ ww:World,_:=Tryz.ta_binNode 190 (.agg #[.int .i64 (m:Int),.iface kt ky]);simp only[if_neg (show ¬ (190=181) by decide)]at D;have E:∀ ww:World,_:=Tryz.ta_callNode 190 (.agg #[.int .i64 (m:Int),.iface kt ky]);simp only[if_neg (show ¬ (190=183) by decide)]at E;have F:∀ ww:World,_:=Tryz.ta_builtNode 190 (.agg #[.int .i64 (m:Int),.iface kt ky]);simp only[if_neg (show ¬ (190=188) by decide)]at F;have G:∀ ww:World,_:=Tryz.ta_convNode 190 (.agg #[.int .i64 (m:Int),.iface kt ky]);simp only[if_true]at G;have S:(m:Int) < 11:=OC
 go_enter func111,ntmps111;have d:(w.alloc (.cells #[.int .i64 (m:Int),.iface kt ky] 190)).drew.heap[w.heap.size]? = some (.cells #[.int .i64 (m:Int),.iface kt ky] 190 (0,0)):=Cf w _;have i:Am g w (w.alloc (.cells #[.int .i64 (m:Int),.iface kt ky] 190)).drew:=⟨(Am.alloc1 (Am.refl g w) c _).1.drew,(Am.alloc1 (Am.refl g w) c _).2.drew⟩;have r:Ao g l (w.alloc (.cells #[.int .i64 (m:Int),.iface kt ky] 190)).drew:=(HA.out.alloc _).below (OO _).drew;have I:(w.alloc (.cells #[.int .i64 (m:Int),.iface kt ky] 190)).drew.cell? (OK w.heap.size 0)=some (.int .i64 (m:Int)):=by rw[Lib.cell_of_heap d];rfl
 have J:(w.alloc (.cells #[.int .i64 (m:Int),.iface kt ky] 190)).drew.cell? (OK w.heap.size 1)=some (.iface kt ky):=by rw[Lib.cell_of_heap d];rfl
 have K:=(HTb.out.below i.1).type m hm;have a:Am g w ((w.alloc (.cells #[.int .i64 (m:Int),.iface kt ky] 190)).alloc (.cells #[.iface kt ky] 86)).drew:=i.alloc1 c _;have p:Ao g l ((w.alloc (.cells #[.int .i64 (m:Int),.iface kt ky] 190)).alloc (.cells #[.iface kt ky] 86)).drew:=r.alloc _;have n:(w.alloc (.cells #[.int .i64 (m:Int),.iface kt ky] 190)).drew.heap.size=w.heap.size+1:=by simp
 have f:((w.alloc (.cells #[.int .i64 (m:Int),.iface kt ky] 190)).alloc (.cells #[.iface kt ky] 86)).drew.heap[w.heap.size]? = some (.cells #[.int .i64 (m:Int),.iface kt ky] 190 (0,0)):=(Am.alloc1 (Am.refl g (w.alloc (.cells #[.int .i64 (m:Int),.iface kt ky] 190)).drew) (by rw[n];omega) _).keep d OC OD;have x:((w.alloc (.cells #[.int .i64 (m:Int),.iface kt ky] 190)).alloc (.cells #[.iface kt ky] 86)).drew.heap[w.heap.size+1]? = some (.cells #[.iface kt ky] 86 (0,0)):=by rw[<- n];exact Cf (w.alloc (.cells #[.int .i64 (m:Int),.iface kt ky] 190)).drew (.cells #[.iface kt ky] 86)
 have O:((w.alloc (.cells #[.int .i64 (m:Int),.iface kt ky] 190)).alloc (.cells #[.iface kt ky] 86)).drew.cell? (OK w.heap.size 0)=some (.int .i64 (m:Int)):=by rw[Lib.cell_of_heap f];rfl
 have P:((w.alloc (.cells #[.int .i64 (m:Int),.iface kt ky] 190)).alloc (.cells #[.iface kt ky] 86)).drew.cell? (OK w.heap.size 1)=some (.iface kt ky):=by rw[Lib.cell_of_heap f];rfl
 have Q:=(HTb.out.below a.1).type m hm;have R:Kv g ((w.alloc (.cells #[.int .i64 (m:Int),.iface kt ky] 190)).alloc (.cells #[.iface kt ky] 86)).drew (.slice (some (OK (w.heap.size+1) 0)) 1 1) [.iface kt ky]:=⟨_,_,rfl,fun j hj=>by
  have t:j=0:=by simp at hj;exact hj
  subst t
  refine⟨w.heap.size+1,0,rfl,fun w' hF => ?_⟩
  have u:=hF.keep x OC OD
  rw[Lib.cell_of_heap u];rfl⟩
 go_wp2_with (go_at_call 15;refine(F5 false g l OC (decide_eq_false hf) _ o).mono ?_;rintro e h ⟨rfl,rfl⟩);go_region_held3 (fun w'=>w'.cell? (OK w.heap.size 0)=some (.int .i64 (m:Int))/\w'.cell? (OK w.heap.size 1)=some (.iface kt ky)/\w'.cell? (OK 0 m)=some (.string (Ag (m:Int)))) (with_reducible first|exact⟨I,J,K⟩|exact⟨O,P,Q⟩|exact⟨L,M,N⟩) (first
  | (go_at_call 143;refine(HC.out _ _ a p R).mono ?_;rintro e H ⟨U,rfl,q,s,b⟩;have k:=b.keep f OC OD;have L:H.cell? (OK w.heap.size 0)=some (.int .i64 (m:Int)):=(by rw[Lib.cell_of_heap k];rfl);have M:H.cell? (OK w.heap.size 1)=some (.iface kt ky):=(by rw[Lib.cell_of_heap k];rfl);have N:=(HTb.out.below (a.trans b).1).type m hm))
 go_wp2;go_end0;exact⟨U,rfl,q,s,a.trans b⟩
theorem Td (u:Nat) (hu64:u < 18446744073709551616) (w:World) (htab:Lib.TabIs prog w "internal/strconv.uint64pow10" .u64 Lib.pow10Tab) :
  Calls prog 172 #[.int .u64 (u:Int),.int .i64 10] w fun e w'=>e = .returned (.string ⟨(Lib.decDigits u).toArray⟩)/\Below w.heap.size w w':=by
 by_cases hs:u < 100
 ·go_enter func172,ntmps172
  go_wp2_with (go_at_call 188;refine(Tryz.internal_strconv_small u hs _).mono ?_;rintro e w' ⟨rfl,rfl⟩)
  go_ret
  exact⟨rfl,OO _⟩
 ·have g:1<=u:=OC
  have m:Lib.nDigits u<=20:=by have:=Lib.numDigits_eq u g hu64;split at this <;> omega
  have p:Lib.nDigits u<=23:=OC
  have f:prog.arrayLen 268=24:=by simp[Program.arrayLen,underlying268]
  have n:∀ W,(Instr.sliceAt 268 (.pointer (some (OK w.heap.size 0))) none (some (.int .i64 (Lib.nDigits u:Int))) none).run prog W = .ok (.slice (some (OK w.heap.size 0)) (Lib.nDigits u) 24) W:=fun W=>by
   rw[run_sliceAt_array_h W 268 (OK w.heap.size 0) (by simp[Program.arrayLen,Program.elem,underlying268]) .i64 (Lib.nDigits u:Int) OC (by rw[f];omega)]
   go_simp
  have c:=Lib.holds_zero0 w 268 (Lib.nDigits u) OC
  have a:=Tryz.internal_strconv_formatBase10 w.heap.size 0 24 u (Array.replicate (Lib.nDigits u) 0) (w.alloc (.cells Lib.zeros24 268)) c (by rw[Array.size_replicate];exact Lib.lt_pow_nDigits u) hu64 (by rw[Array.size_replicate];omega)
  rw[Array.size_replicate]at a
  have i:=Lib.hid c
  clear c f
  go_enter func172,ntmps172
  go_wp2_with (first|(go_at_call 189;refine(Tryz.internal_strconv_numDigits u g hu64 _ (Lib.tabIs_alloc htab _)).mono ?_;rintro e w' ⟨rfl,rfl⟩))
  go_at_call 190
  refine a.mono ?_
  rintro e w' ⟨rfl,k,v',d,rfl,l⟩
  have q:(Go.convert 22 9 (.slice (some (OK w.heap.size 0)) (Lib.nDigits u) 24)).run prog ((Sort.putRow (fun (b:UInt8)=>Value.int .u8 (b.toNat:Int)) (w.alloc (.cells Lib.zeros24 268)) w.heap.size 0 d).drewN k) = .ok (.string ⟨(Lib.decDigits u).toArray⟩) ((Sort.putRow (fun (b:UInt8)=>Value.int .u8 (b.toNat:Int)) (w.alloc (.cells Lib.zeros24 268)) w.heap.size 0 d).drewN k):=by
   have h:=run_convert_bytes_back (P:=prog) ((Sort.putRow (fun (b:UInt8)=>Value.int .u8 (b.toNat:Int)) (w.alloc (.cells Lib.zeros24 268)) w.heap.size 0 d).drewN k) 22 9 5 (OK w.heap.size 0) 24 (Lib.decDigits u) underlying22 underlying5 underlying9 (fun j hj=>by
    rw[Lib.add_plain,Lib.row_is_numeral l j hj,World.cell?_drewN]
    exact Sort.cell?_putRow (fun (b:UInt8)=>Value.int .u8 (b.toNat:Int)) _ w.heap.size 0 _ d i.out (by rw[l.size,Array.size_replicate]) j (by rw[l.size];rw[Lib.decDigits_length]at hj;exact hj))
   rw[Lib.decDigits_length]at h
   exact h
  go_wp2
  go_ret
  obtain⟨r,o⟩:=Lib.fin_at w (.cells Lib.zeros24 268) d k 0
  refine⟨rfl, ?_⟩
  show Below w.heap.size w ((Sort.putRow (fun (b:UInt8)=>Value.int .u8 (b.toNat:Int)) (w.alloc (.cells Lib.zeros24 268)) w.heap.size 0 d).drewN k)
  rw[o]
  exact Lib.below_grow _ w ON k r
theorem Uk (x:Int) (h0:0<=x) (h1:x < 18446744073709551616) (w:World) (htab:Lib.TabIs prog w "internal/strconv.uint64pow10" .u64 Lib.pow10Tab) :
  Calls prog 139 #[.int .u64 x,.int .i64 10] w fun e w'=>e = .returned (.string ⟨(Lib.decDigits x.toNat).toArray⟩)/\Below w.heap.size w w':=by
 have a:Hid (Calls prog 172 #[.int .u64 x,.int .i64 10] w fun e w'=>e = .returned (.string ⟨(Lib.decDigits x.toNat).toArray⟩)/\Below w.heap.size w w'):=by
  have:=Td x.toNat OC w htab
  rw[show ((x.toNat:Nat):Int)=x by omega]at this
  exact this
 go_enter func139,ntmps139
 go_wp2_with (go_at_call 172;refine a.out.mono ?_;rintro e w' ⟨rfl,b⟩)
 go_ret
 exact⟨rfl,b⟩
theorem Qbl (g:Nat) (l:List UInt8) (hl:l.length<=20000000) (hf:¬ 12000 < l.length) (w:World) (m:Nat) (hm:m<=10) (n:Int) (hm10:(m:Int)=10) (HTb:Hid (E0 g w)) (HP:Hid (∀ x:World,Below g w x->Lib.TabIs prog x "internal/strconv.uint64pow10" .u64 Lib.pow10Tab)) (HA:Hid (Ao g l w)) :
    Calls prog 111 #[.pointer (some (OK g 0)),.iface 171 (.agg #[.int .i64 (m:Int),.int .i64 n])] w fun e w' => ∃ l',e = .returned (.tuple #[])/\Ao g l' w'/\Ax l ((Hr n).data.toList) l'/\Am g w w':=by
  have r:=HA.out.lt
  have h:=HA.out
  have v:∀ ww:World,_:=Tryz.ta_intNode 171 (.agg #[.int .i64 (m:Int),.int .i64 n])
  simp only[if_true]at v
  have z:((m:Int) != 10)=false:=by simp[hm10]
  clear hm10
  have A:=O3 n
  have E:IntKind.u64.wrap n=n % 18446744073709551616:=Jf _
  have s:(w.alloc (.cells #[.int .i64 (m:Int),.int .i64 n] 171)).heap[w.heap.size]? = some (.cells #[.int .i64 (m:Int),.int .i64 n] 171 (0,0)):=Cf w _
  have c:Am g w (w.alloc (.cells #[.int .i64 (m:Int),.int .i64 n] 171)):=(Am.alloc1 (Am.refl g w) r _)
  have k:Ao g l (w.alloc (.cells #[.int .i64 (m:Int),.int .i64 n] 171)):=HA.out.alloc _
  have q:Hid (Calls prog 139 #[.int .u64 (n % 18446744073709551616),.int .i64 10] (w.alloc (.cells #[.int .i64 (m:Int),.int .i64 n] 171)) fun e w'=>e = .returned (.string (Hr n))/\Below (w.alloc (.cells #[.int .i64 (m:Int),.int .i64 n] 171)).heap.size (w.alloc (.cells #[.int .i64 (m:Int),.int .i64 n] 171)) w'):=Uk _ OC OC _ (HP.out _ c.1)
  go_enter func111,ntmps111
  go_wp2_with (first
    | (go_at_call 15;refine(F5 false g l OC (decide_eq_false hf) _ h).mono ?_;rintro e x ⟨rfl,rfl⟩)
    | (go_at_call 139;refine q.out.mono ?_;rintro e f ⟨rfl,a⟩;have j:Ao g l f:=k.below a;have p:Am g w f:=c.below OC a;have u:f.heap[w.heap.size]? = some (.cells #[.int .i64 (m:Int),.int .i64 n] 171 (0,0)):=(a.block w.heap.size OF).trans s)
    | (go_at_call 36;(with_reducible refine(C5 g l hl (Hr n) OC f f.heap.size rfl j).mono ?_);rintro e C ⟨B,rfl,i,o,b⟩
       have t:=b.keep u OC OD
       have D:C.cell? (OK w.heap.size 0)=some (.int .i64 (m:Int)):=(by rw[Lib.cell_of_heap t];rfl)
       have d:=p.trans b
       have y:=(HTb.out.below d.1).type m hm))
  go_end0
  exact⟨B,rfl,i,o,d⟩
theorem Qfc (g:Nat) (l:List UInt8) (hl:l.length<=20000000) (hf:¬ 12000 < l.length) (w:World) (m:Nat) (hm:m<=10) (n:Int) (hm10:¬ (m:Int)=10) (HTb:Hid (E0 g w)) (HP:Hid (∀ A:World,Below g w A->Lib.TabIs prog A "internal/strconv.uint64pow10" .u64 Lib.pow10Tab)) (HA:Hid (Ao g l w)) :
    Calls prog 111 #[.pointer (some (OK g 0)),.iface 171 (.agg #[.int .i64 (m:Int),.int .i64 n])] w fun e w' => ∃ l',e = .returned (.tuple #[])/\Ao g l' w'/\Ax l ((Hr n).data.toList++(Ag (m:Int)).data.toList) l'/\Am g w w':=by
  have u:=HA.out.lt
  have i:=HA.out
  have z:∀ ww:World,_:=Tryz.ta_intNode 171 (.agg #[.int .i64 (m:Int),.int .i64 n])
  simp only[if_true]at z
  have E:((m:Int) != 10)=true:=by simpa using hm10
  have C:(m:Int) < 11:=OC
  clear hm10
  have F:=O3 n
  have J:IntKind.u64.wrap n=n % 18446744073709551616:=Jf _
  have v:(w.alloc (.cells #[.int .i64 (m:Int),.int .i64 n] 171)).heap[w.heap.size]? = some (.cells #[.int .i64 (m:Int),.int .i64 n] 171 (0,0)):=Cf w _
  have d:Am g w (w.alloc (.cells #[.int .i64 (m:Int),.int .i64 n] 171)):=(Am.alloc1 (Am.refl g w) u _)
  have p:Ao g l (w.alloc (.cells #[.int .i64 (m:Int),.int .i64 n] 171)):=HA.out.alloc _
  have t:Hid (Calls prog 139 #[.int .u64 (n % 18446744073709551616),.int .i64 10] (w.alloc (.cells #[.int .i64 (m:Int),.int .i64 n] 171)) fun e w'=>e = .returned (.string (Hr n))/\Below (w.alloc (.cells #[.int .i64 (m:Int),.int .i64 n] 171)).heap.size (w.alloc (.cells #[.int .i64 (m:Int),.int .i64 n] 171)) w'):=Uk _ OC OC _ (HP.out _ d.1)
  go_enter func111,ntmps111
  go_wp2_with (first
    | (go_at_call 15;refine(F5 false g l OC (decide_eq_false hf) _ i).mono ?_;rintro e A ⟨rfl,rfl⟩)
    | (go_at_call 139;refine t.out.mono ?_;rintro e h ⟨rfl,a⟩;have k:Ao g l h:=p.below a;have s:Am g w h:=d.below OC a;have y:h.heap[w.heap.size]? = some (.cells #[.int .i64 (m:Int),.int .i64 n] 171 (0,0)):=(a.block w.heap.size OF).trans v)
    | (go_at_call 36;(with_reducible refine(C5 g l hl (Hr n) OC h h.heap.size rfl k).mono ?_);rintro e B ⟨G,rfl,j,b,c⟩
       have x:=c.keep y OC OD
       have I:B.cell? (OK w.heap.size 0)=some (.int .i64 (m:Int)):=(by rw[Lib.cell_of_heap x];rfl)
       have f:=s.trans c
       have D:=(HTb.out.below f.1).type m hm))
  refine(Cu g G b.2.2.2 (Ag (m:Int)) (by have:=Du (m:Int);omega) B j).mono ?_
  rintro e K ⟨H,rfl,o,q,r⟩
  go_wp2
  go_end0
  exact⟨H,rfl,o,b.trans q,f.trans r⟩
mutual
def Jk : Aa->Prop
 | .node d ks=>Au d=true/\Ac d.kind d.op (ks.map (fun t=>t.nd.kind))=true/\d.text.size<=1048576/\He ks
def He : List Aa->Prop
 | []=>True
 | t::r=>Jk t/\He r
end
theorem O4 : ∀ a b:List Aa,He (a++b) ↔ He a/\He b
 | [],b=>by rw[List.nil_append,He];simp
 | t::r,b=>by rw[List.cons_append,He,He,O4 r b];exact and_assoc.symm
theorem X5 : ∀ (ns:List Ae) (st st':List Aa),Bu ns st=some st'->(∀ d ∈ ns,d.text.size<=1048576)->He st->He st'
 | [],st,st',h,_,hg=>by
  rw[Bu]at h
  cases h
  exact hg
 | d::r,st,st',h,ht,hg=>by
  rw[Bu]at h
  split at h
  ·rename_i hs
   refine X5 r _ st' h (fun e he=>ht e (by simp[he])) ?_
   have a:=hg
   rw[<- List.take_append_drop (st.length - d.kids.toNat) st,O4]at a
   simp only[Do,Bool.and_eq_true]at hs
   rw[O4]
   refine⟨a.1, ?_⟩
   rw[He,Jk,He]
   exact⟨⟨hs.1.1.2,hs.1.2,ht d OF,a.2⟩,trivial⟩
  ·cases h
theorem J8 : ∀ (l:List Aa),He l->∀ t ∈ l,Jk t
 | [],_,t,h=>by cases h
 | u::r,hg,t,h=>by
  rw[He]at hg
  rcases List.mem_cons.1 h with rfl|h
  ·exact hg.1
  ·exact J8 r hg.2 t h
theorem Wn {P:Nat->Prop} {g:Nat} {w0 w:World} {S:Value} {us:List Value} (hP:∀ k,P k->k < g) (h:Bk P w0 S us.length us) (hw:Below g w0 w):Kv g w S us:=by
 obtain⟨a,c,rfl,f⟩:=h;refine⟨a,c,rfl,fun j hj => ?_⟩;obtain⟨k,d,i,b⟩:=f j us[j] (List.getElem?_eq_getElem hj);refine⟨k,0,d,fun w' hf => ?_⟩;rw[Nat.zero_add,(hw.trans hf.1).cell (p:=(OK k j)) (hP k i)];exact b
theorem Qn5 (g:Nat) (w0:World) (P:Nat->Prop) (t:Aa) (v:Value) (T:List UInt8) (hR:Ba P w0 t v) (hV:C1 g w0 v T):Rk g w0 v (Lj t.nd.kind T):=by
 obtain⟨d,ks⟩:=t;rw[Ba]at hR;obtain⟨us,⟨i,k,x,rfl,b⟩,c,_⟩:=hR;show Rk g w0 _ (Lj d.kind T)
 intro w l h f a;unfold Lj;by_cases h6:d.kind=6
 ·rw[if_pos h6];rw[h6]at hV |-
  simp only[Az,h6]at b;obtain⟨u,v,rfl,rfl⟩:∃ u v,us=[u,v]/\x = .agg #[.int .i64 d.op,u,v]:=by simpa using b
  obtain⟨o,m,_,_,_,rfl,_⟩:=B7 c 0 u rfl;obtain⟨p,n,_,_,_,rfl,_⟩:=B7 c 1 v rfl;exact Qbj g w0 d.op _ _ m n T l f hV w h a
 ·rw[if_neg h6];exact Yf g w0 (A9 d.kind) (by have:=Hl i k (j:=6) OC OC h6;exact this) x T l f hV w h a
theorem Qn4 (ks:List Aa) (j:Nat) (h:j < ks.length) (h':j < (D6 ks).length):(D6 ks)[j]=Fa ks[j]:=by
 have e:=Ri ks;simp only[e,List.getElem_map]
theorem Qmb (ks:List Aa):(D6 ks).length=ks.length:=by rw[Ri,List.length_map]
theorem Lc (a b:ByteArray):(a++b).data.toList=a.data.toList++b.data.toList:=by simp[ByteArray.data_append]
theorem Oo (k:Int) (x:ByteArray):(En k x).data.toList=Lj k x.data.toList:=by
 unfold En Lj;by_cases h:k=6
 ·rw[if_pos h,if_pos h,Lc,Lc]
 ·rw[if_neg h,if_neg h]
theorem Ki {s:ByteArray} (h:A0 s=true):s.size<=30:=by
 unfold A0 at h;simp only[Bool.and_eq_true,decide_eq_true_eq]at h;omega
theorem Qbu {A:Type}:∀ {l:List A},l.length=2->∃ a b,l=[a,b]
 | [a,b],_=>⟨a,b,rfl⟩
theorem Qkm : A9 1=171/\A9 2=173/\A9 3=175/\A9 4=177/\A9 5=179/\A9 6=181/\A9 7=183/\A9 8=188/\A9 9=190:=by decide +kernel
theorem Qki (g:Nat) (w0:World) (P:Nat->Prop) (hP:∀ k,P k->k < g) (hT:E0 g w0) (hpow:∀ w1,Below g w0 w1->Lib.TabIs prog w1 "internal/strconv.uint64pow10" .u64 Lib.pow10Tab)
  (d:Ae) (ks:List Aa) (us:List Value) (x:Value) (hu:Au d=true) (hfit:Ac d.kind d.op (ks.map (fun t=>t.nd.kind))=true) (htext:d.text.size<=1048576) (hE:Ah d.kind=true)
  (hI:Az P w0 d us x) (hK:Aq us (ks.map (fun t=>t.nd.kind))) (hlen:us.length=ks.length)
  (hV:∀ j (h:j < us.length) (h':j < (D6 ks).length),C1 g w0 us[j] (D6 ks)[j].data.toList)
  (hO:∀ j (h:j < us.length) (h':j < ks.length),Rk g w0 us[j] (Lj ks[j].nd.kind (Fa ks[j]).data.toList)) :
  C1 g w0 (.iface (A9 d.kind) x) (Fa (.node d ks)).data.toList:=by
 intro w l p a i
 by_cases hf:12000 < l.length
 ·exact Qdn g _ _ l a hf w i
 have b:E0 g w:=hT.below p
 have B:∀ w1,Below g w w1->Lib.TabIs prog w1 "internal/strconv.uint64pow10" .u64 Lib.pow10Tab:=fun w1 h=>hpow w1 (p.trans h)
 obtain⟨I,K,D,E⟩:=Qdb hfit hE
 rw[List.length_map]at K D E
 have r:(D6 ks).length=us.length:=by rw[Qmb,hlen]
 obtain⟨M,N,O,Q,R,T,U,V,W⟩:=Qkm
 rw[Fa]
 obtain⟨c,o,t,n,s,F⟩:=d
 simp only at *
 have L:c=1\/c=2\/c=3\/c=4\/c=5\/c=6\/c=7\/c=8\/c=9:=by
  simp only[Ah,Bool.and_eq_true,decide_eq_true_eq]at hE;omega
 rcases L with rfl|rfl|rfl|rfl|rfl|rfl|rfl|rfl|rfl
 ·obtain⟨rfl,rfl⟩:us=[]/\x = .agg #[.int .i64 t,.int .i64 n]:=by simpa[Az]using hI
  simp only[Au,if_true,Bool.and_eq_true,decide_eq_true_eq]at hu
  obtain⟨m,rfl⟩:∃ m:Nat,t=(m:Int):=⟨t.toNat,by omega⟩
  rw[M]
  by_cases h10:(m:Int)=10
  ·have:=Qbl g l a hf w m OC n h10 b B i
   simpa[C2,h10]using this
  ·have:=Qfc g l a hf w m OC n h10 b B i
   simpa only[C2,if_true,h10,if_false,Lc]using this
 ·obtain⟨rfl,rfl⟩:us=[]/\x = .agg #[.string s]:=by simpa[Az]using hI
  rw[N]
  have:=Ws g l a hf s htext w i
  simpa[C2]using this
 ·obtain⟨rfl,rfl⟩:us=[]/\x = .agg #[.bool (n == 1)]:=by simpa[Az]using hI
  rw[O]
  have:=Wo g l a hf (n == 1) w i
  have e:C2 ⟨3,o,t,n,s,F⟩ (ks.map (fun t=>t.nd.kind)) (D6 ks)=Rl (n == 1):=by
   unfold Rl
   by_cases hn:n=1
   ·simp[C2,hn]
   ·simp[C2,hn]
  rw[e];exact this
 ·obtain⟨rfl,rfl⟩:us=[]/\x = .agg #[.string s]:=by simpa[Az]using hI
  rw[Q]
  have:=Wr g l a hf s OC w i
  simpa[C2]using this
 ·obtain⟨u,rfl,rfl⟩:∃ u,us=[u]/\x = .agg #[.int .i64 o,u]:=by simpa[Az]using hI
  obtain⟨f,rfl⟩:∃ f,ks=[f]:=List.length_eq_one_iff.1 (by rw[<- hlen];rfl)
  simp only[Au]at hu
  have y:1<=o/\o<=3:=by simpa using hu
  obtain⟨m,rfl⟩:∃ m:Nat,o=(m:Int):=⟨o.toNat,by omega⟩
  obtain⟨J,C,_,_,_,rfl,_⟩:=B7 hK 0 u rfl
  rw[R]
  have:=Zx g l a hf w m OC _ C _ b (fun w2 l2 h2=>hO 0 (by simp) (by simp) w2 l2 (p.trans h2)) i
  have e:(C2 ⟨5,(m:Int),t,n,s,F⟩ ([f].map (fun t=>t.nd.kind)) (D6 [f])).data.toList=(E3 (m:Int)).data.toList++Lj f.nd.kind (Fa f).data.toList:=by
   rw[<- Oo,<- Lc];simp[C2,D6]
  rw[e];exact this
 ·obtain⟨u,v,rfl,rfl⟩:∃ u v,us=[u,v]/\x = .agg #[.int .i64 o,u,v]:=by simpa[Az]using hI
  obtain⟨f,z,rfl⟩:∃ f z,ks=[f,z]:=Qbu (by rw[<- hlen];rfl)
  simp only[Au]at hu
  have y:1<=o/\o<=18:=by simpa using hu
  obtain⟨m,rfl⟩:∃ m:Nat,o=(m:Int):=⟨o.toNat,by omega⟩
  obtain⟨J,C,_,_,_,rfl,_⟩:=B7 hK 0 u rfl
  obtain⟨Z,X,_,_,_,rfl,_⟩:=B7 hK 1 v rfl
  rw[T]
  have:=Yn g l a hf w m OC _ _ C X _ _ b (fun w2 l2 h2=>hO 0 (by simp) (by simp) w2 l2 (p.trans h2)) (fun w2 l2 h2=>hO 1 (by simp) (by simp) w2 l2 (p.trans h2)) i
  have e:(C2 ⟨6,(m:Int),t,n,s,F⟩ ([f,z].map (fun t=>t.nd.kind)) (D6 [f,z])).data.toList=Lj f.nd.kind (Fa f).data.toList++([32]++(C0 (m:Int)).data.toList++[32])++Lj z.nd.kind (Fa z).data.toList:=by
   rw[<- Oo,<- Oo];simp[C2,D6]
  rw[e];exact this
 ·obtain⟨S,A,rfl⟩:∃ S,Bk P w0 S us.length us/\x = .agg #[.string s,S]:=by simpa[Az]using hI
  have Y:=Ki (s:=s) (by simpa[Au]using hu)
  have q:=A
  obtain⟨G,H,rfl,_⟩:=q
  rw[U]
  have:=Wp g l a hf w s OC G us.length H _ (fun w1 hf1 hA1=>Qc g w0 s OC _ us (D6 ks) r OC l a w1 (Wn hP A (p.trans hf1.1)) hV (p.trans hf1.1) hA1) i
  simpa[C2]using this
 ·obtain⟨S,A,rfl⟩:∃ S,Bk P w0 S us.length us/\x = .agg #[.int .i64 o,S]:=by simpa[Az]using hI
  simp only[Au]at hu
  have y:1<=o/\o<=12:=by simpa using hu
  obtain⟨m,rfl⟩:∃ m:Nat,o=(m:Int):=⟨o.toNat,by omega⟩
  have q:=A
  obtain⟨G,H,rfl,_⟩:=q
  rw[V]
  have:=U7 g l a hf w m OC G us.length H _ b (fun w1 hf1 hA1=>Qc g w0 (Av (m:Int)) (by have:=Ms (m:Int);omega) _ us (D6 ks) r OC l a w1 (Wn hP A (p.trans hf1.1)) hV (p.trans hf1.1) hA1) i
  simpa[C2]using this
 ·obtain⟨u,rfl,rfl⟩:∃ u,us=[u]/\x = .agg #[.int .i64 t,u]:=by simpa[Az]using hI
  simp only[Au]at hu
  have y:3<=t/\t<=10:=by simpa using hu
  obtain⟨m,rfl⟩:∃ m:Nat,t=(m:Int):=⟨t.toNat,by omega⟩
  obtain⟨J,C,_,_,_,rfl,_⟩:=B7 hK 0 u rfl
  rw[W]
  have:=Wq g l a hf w m OC _ C _ b (fun w1 v hf1 hA1 hrow=>Qc g w0 (Ag (m:Int)) (by have:=Du (m:Int);omega) v _ (D6 ks) r OF l a w1 hrow hV (p.trans hf1.1) hA1) i
  simpa[C2]using this
mutual
theorem Qdm (g:Nat) (w0:World) (P:Nat->Prop) (hP:∀ k,P k->k < g) (hT:E0 g w0) (hpow:∀ w1,Below g w0 w1->Lib.TabIs prog w1 "internal/strconv.uint64pow10" .u64 Lib.pow10Tab) :
  ∀ (t:Aa) (v:Value),Jk t->Ah t.nd.kind=true->Ba P w0 t v->C1 g w0 v (Fa t).data.toList
 | .node d ks,v,hg,hE,c=>by
  rw[Jk]at hg
  rw[Ba]at c
  obtain⟨us,⟨r,s,x,rfl,n⟩,o,m,l,c⟩:=c
  have b:Ah d.kind=true:=hE
  have a:=(Qdb hg.2.1 b).1
  have p:=An.len ks us c
  have i:=Qax g w0 P hP hT hpow ks us hg.2.2.2 (by rw[List.all_map]at a;exact a) c
  refine Qki g w0 P hP hT hpow d ks us x hg.1 hg.2.1 hg.2.2.1 b n o p (fun j h h' => ?_) (fun j h h' => ?_)
  ·obtain⟨_,f⟩:=i j OC h
   rw[Qn4 ks j OC h'];exact f
  ·obtain⟨q,f⟩:=i j h' h
   exact Qn5 g w0 P ks[j] us[j] _ q f
theorem Qax (g:Nat) (w0:World) (P:Nat->Prop) (hP:∀ k,P k->k < g) (hT:E0 g w0) (hpow:∀ w1,Below g w0 w1->Lib.TabIs prog w1 "internal/strconv.uint64pow10" .u64 Lib.pow10Tab) :
  ∀ (ts:List Aa) (us:List Value),He ts->ts.all (fun t=>Ah t.nd.kind)=true->An P w0 ts us->∀ j (h:j < ts.length) (h':j < us.length),Ba P w0 ts[j] us[j]/\C1 g w0 us[j] (Fa ts[j]).data.toList
 | [],us,_,_,_,j,h,_=>by simp at h
 | t::r,us,hg,ha,hR,j,h,h'=>by
  rw[He]at hg
  rw[An]at hR
  obtain⟨u,a,rfl,b,c⟩:=hR
  rw[List.all_cons,Bool.and_eq_true]at ha
  cases j with
  | zero=>exact⟨b,Qdm g w0 P hP hT hpow t u hg.1 ha.1 b⟩
  | succ j=>exact Qax g w0 P hP hT hpow r a hg.2 ha.2 c j (by simpa using h) (by simpa using h')
end
end Go.Proofs.YtjlaedokfbcbpaaGreatDoor
