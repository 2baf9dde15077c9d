import Derived.Test.YtjlaedokfbcbpaaGreatDoorKGenY
namespace Go.Proofs.YtjlaedokfbcbpaaGreatDoor
open Go.RowKit Proofs.Tryz
theorem Tt {B g R P:Nat} {w:World} {nv:Value} {nl:List (ByteArray × Int)} {fv:Value} {F:List Ca} {ret loops count size:Int} (h:Aw B g R P w nv nl fv F ret loops count size) (n:Int) (h1:1<=n) (h2:n<=1000000000) (hP:P<=1000000000) :
  Calls prog 26 #[.pointer (some (OK R 0)),.int .i64 n] w fun e w' => ∃ v:Int,e = .returned (.int .i64 v)/\(0<=v/\v < n)/\Aw B g R (P+1) w' nv nl fv F ret loops count size/\Bg B w w':=by
 refine(Bn h n h1 h2 hP).mono ?_;rintro e w' ⟨v,a,d,c,b⟩;exact⟨v,a,by omega,c,b⟩
theorem Qol {W:World} {b T:Nat} {t:Int} (h:W.heap[b]? = some (.cells #[.int .i64 0,.int .i64 2,.int .i64 t] T)) (ht:1<=t/\t<=10) {v:Nat} (hv:(v:Int) < 3):∃ r:Int,W.cell? (OK b v)=some (.int .i64 r)/\Hs r:=by
 have a:v=0\/v=1\/v=2:=OC
 rcases a with rfl|rfl|rfl
 ·exact⟨0,by rw[Lib.cell_of_heap h];rfl,by unfold Hs;omega⟩
 ·exact⟨2,by rw[Lib.cell_of_heap h];rfl,by unfold Hs;omega⟩
 ·exact⟨t,by rw[Lib.cell_of_heap h];rfl,by unfold Hs;omega⟩
theorem Qkz : (prog.info? 3).map (fun i=>(i.zero,i.size,i.bytes))=some (some (.int .i64 0),1,8):=OE
theorem Qk0 : (prog.info? 133).map (fun i=>(i.zero,i.size,i.bytes))=some (some (.agg #[.string ⟨#[]⟩,.slice none 0 0,.int .i64 0]),3,48):=OE
theorem Qix {V:World} {ops:Array Oper} {o:Oper} {a:Act} {K:Act->World->Prop} {Q:Exit->Act->World->Prop} {E:Prop} (hgd:o.guard=none) (s x:Operand)
  (ho:o.op = .call { callee:=.builtin .append,args := #[s,x],argTypes := #[60,60] }) {A:Nat} {pv:Value} {ps:List Int} (hp:V.ownsRow A 3 1 pv ps.length (Gf ps)) (hn:ps.length<=100) (t:Int) {b:Nat} (hV:V.heap[b]? = some (.cells #[.int .i64 t] 3)) (hA:A<=V.heap.size)
  (hs:a.eval s=pv) (hx:a.eval x = .slice (some (OK b 0)) 1 1)
  (h:∀ a' c' w',w'.ownsRow A 3 1 (.slice a' (ps.length+1) c') (ps.length+1) (Gf (ps++[t]))->V.grownBy w' pv.ownBlock->K (a.put o.dst (.slice a' (ps.length+1) c')) w') :
  if Region.wanted o (yielded ops a.tmps)=true then Oper.wp prog o a V K Q else E:=by
 have i:Region.wanted o (yielded ops a.tmps)=true:=by simp[Region.wanted,hgd]
 rw[if_pos i];obtain⟨y,g,j,l,m⟩:=info_parts Qkz;have d:Jn V (some (OK b 0)) 1 [.int .i64 t]:=fun _=>⟨_,rfl,fun k u hk=>by
  rw[Ld,Lib.cell_of_heap hV]
  simpa using hk⟩
 obtain⟨B,z,v,c,f⟩:=Io (P:=prog) (w:=V) A 60 o.type 3 y (.int .i64 0) 1 8 underlying60 g j l m rfl OD pv _ _ hp (some (OK b 0)) 1 1 [.int .i64 t] rfl d (by intro u n;simp at n;subst n;rfl) OI OC hA;obtain⟨p,q,r⟩:=B3 c;subst r;unfold Oper.wp execOp;simp only[ho,resolve,invoke,builtin,Sem.run_bind,Sem.run_pure,Result.andThen_ok,List.map_toArray,List.map_cons,List.map_nil,hs,hx,v];refine h p q z ?_ f;have e:Gf (ps++[t])=Gf ps++[.int .i64 t]:=by simp[Gf]
 rw[e];exact c
theorem Jl.fpar {B g R P bf:Nat} {w V w7:World} {fv pv v7:Value} {F:List Ca} {size res:Int} {x:ByteArray} {ps:List Int} {n7:Nat} {xs:List Value} (h:Jl B g R P w V fv F size) (hl:Qie bf fv F) (hg:g < bf) (hx:V.heap[bf]? = some (.cells #[.string x,pv,.int .i64 res] 133)) (hp:V.ownsRow bf 3 1 pv ps.length (Gf ps)) (ho:w7.ownsRow bf 3 1 v7 n7 xs) (hgr:V.grownBy w7 pv.ownBlock) :
  Jl B g R P w (w7.setCell (OK bf 1) v7) fv F size/\(w7.setCell (OK bf 1) v7).heap[bf]? = some (.cells #[.string x,v7,.int .i64 res] 133)/\(w7.setCell (OK bf 1) v7).ownsRow bf 3 1 v7 n7 xs/\w7.cell? (OK bf 1)=some pv/\w7.frozen? (OK bf 1)=false:=by
 have d:bf < V.heap.size:=(Array.getElem?_eq_some_iff.1 hx).1;have c:∀ k,pv.ownBlock=some k->k≠bf/\bf<=k:=fun k hk=>by
  obtain⟨f,i,a⟩:=A8 hp hk;refine⟨fun e => ?_,f.1⟩;subst e;rw[hx]at a;injection a with a;injection a with _ a _;exact absurd a OD
 have b:w7.heap[bf]? = some (.cells #[.string x,pv,.int .i64 res] 133):=(hgr.block bf d (fun e=>(c bf e.symm).1 rfl)).trans hx;refine⟨h.high hl hg hgr.os hgr.tape hgr.output (by simpa[World.setCell]using hgr.size) (fun k hk hkz=>(Bd OC).trans (hgr.block k hk (fun e=>by have:=(c k e.symm).2;omega))),by rw[Ha b];rfl,B1 ho (fun k hk _ _=>Bd (fun e => ?_)),by rw[Lib.cell_of_heap b];rfl,by simp[World.frozen?,b]⟩;obtain⟨_,i,a⟩:=A8 ho hk;subst e;rw[b]at a;injection a with a;injection a with _ a _;exact absurd a OD
theorem Qb4 {wr V:World} {ops:Array Oper} {o:Oper} {a:Act} {K:Act->World->Prop} {Q:Exit->Act->World->Prop} {E:Prop} (hgd:o.guard=none) (s x:Operand)
  (ho:o.op = .call { callee:=.builtin .append,args := #[s,x],argTypes := #[129,129] }) {B g R P:Nat} {w:World} {fv:Value} {F:List Ca} {size:Int} (h:Jl B g R P w wr fv F size) (hF:F.length<=4) (nm:ByteArray) (pv:Value) (ps:List Int) (res:Int) (hsb:nm.size<=30/\ps.length<=3/\Hs res/\∀ t ∈ ps,Hs t) (hb:Below wr.heap.size wr V) (hp:wr.ownsRow w.heap.size 3 1 pv ps.length (Gf ps)) {b:Nat} (hV:V.heap[b]? = some (.cells #[.string nm,pv,.int .i64 res] 133))
  (hs:a.eval s=fv) (hx:a.eval x = .slice (some (OK b 0)) 1 1)
  (hK:∀ a' c' w',(w'.cell? (OK g 2)=some fv/\w'.frozen? (OK g 2)=false)->Jl B g R P w (w'.setCell (OK g 2) (.slice a' (F.length+1) c')) (.slice a' (F.length+1) c') (F++[⟨nm,pv,ps,res⟩]) size->(∀ k,k < wr.heap.size->fv.ownBlock≠some k->w'.heap[k]? = wr.heap[k]?)->K (a.put o.dst (.slice a' (F.length+1) c')) w') :
  if Region.wanted o (yielded ops a.tmps)=true then Oper.wp prog o a V K Q else E:=by
 have p:Region.wanted o (yielded ops a.tmps)=true:=by simp[Region.wanted,hgd]
 rw[if_pos p];obtain⟨I,j,q,r,v⟩:=info_parts Qk0;have n:pv.oneCell'=true:=by obtain⟨L,M,C⟩:=B3 hp;rw[C];rfl
 have f:Jn V (some (OK b 0)) 1 [.string nm,pv,.int .i64 res]:=fun _=>⟨_,rfl,fun k u hk=>by
  rw[Ld,Lib.cell_of_heap hV]
  simpa using hk⟩
 have l:=B1 hp (fun k _ _ hl=>hb.block k hl);have N:=h.fw.size;have H:=hb.size;obtain⟨O,J,G,c,d⟩:=Io (P:=prog) (w:=V) w.heap.size 129 o.type 133 I (.agg #[.string ⟨#[]⟩,.slice none 0 0,.int .i64 0]) 3 48 underlying129 j q r v rfl OD fv _ _ (h.below hb).row (some (OK b 0)) 1 1 [.string nm,pv,.int .i64 res] rfl f (by intro u y;simp at y;rcases y with rfl|rfl|rfl <;> first|rfl|exact n) OI OC OC;obtain⟨z,A,D⟩:=B3 c;subst D;obtain⟨m,i⟩:=h.addFn hF ⟨nm,pv,ps,res⟩ hsb hb l c d;unfold Oper.wp execOp;simp only[ho,resolve,invoke,builtin,Sem.run_bind,Sem.run_pure,Result.andThen_ok,List.map_toArray,List.map_cons,List.map_nil,hs,hx,G];exact hK z A J i m (fun k hk1 hk2=>(d.block k OC (fun e=>hk2 e.symm)).trans (hb.block k hk1))
theorem Qok {j n:Int} {F:List Ca} (hj:0<=j/\j<=n) (hn:0<=n/\n < 4) (h:F.length=j.toNat):F.length<=3:=OC
theorem Qm0 {j n:Int} {F:List Ca} (_hj:0<=j/\j<=n) (hn:0<=n/\n < 4) (h:F.length=j.toNat) (hl:j < n):F.length<=2:=OC
theorem Qgn {j n:Int} (hj:0<=j/\j<=n) (hn:0<=n/\n < 4):wrap64 (j+1)=j+1:=IntWalk.wrap64_in _ OC
theorem Qp3 {k:Int} (hk:0<=k/\k<=2) (h:0 < k):wrap64 (k - 1)=k - 1:=IntWalk.wrap64_in _ OC
theorem Qom {j n:Int} (hj:0<=j/\j<=n) (hn:0<=n/\n < 4):j<=9223372036854775807:=OC
theorem Qqd {P l:Nat} (hP:P<=300000000) (hl:l<=3):P+1+20 * l<=900000000:=OC
theorem Qqe {P l:Nat} (hP:P<=300000000) (hl:l<=3):P+1+20 * l+2<=1000000000:=OC
theorem Qqf {P l:Nat} (hP:P<=300000000) (hl:l<=3):P+1+20 * l+2+1<=1000000000:=OC
theorem Qqi {P l m:Nat} {k:Int} (hP:P<=300000000) (hl:l<=3) (hm:m+k.toNat<=2):P+1+20 * l+6+2 * m<=900000000:=OC
theorem Qow (P m:Nat):P+2 * m+2<=P+2 * (m+1):=OC
theorem Qou {P l m:Nat} {k:Int} (hm:m+k.toNat<=2):P+1+20 * l+6+2 * m<=P+1+20 * (l+1):=OC
theorem Qm4 {m:Nat} {k:Int} (hm:m+k.toNat<=2):m<=100:=OC
theorem Qk3 {m:Nat} {k:Int} (hm:m+k.toNat<=2):m<=3:=OC
theorem Qoq {k:Int} (hk:0<=k/\k<=2) (h:0 < k):0<=k - 1/\k - 1<=2:=OC
theorem Qm1 {k:Int} {ps:List Int} {t:Int} (hk:0<=k/\k<=2) (h:0 < k) (hm:ps.length+k.toNat<=2):(ps++[t]).length+(k - 1).toNat<=2:=by rw[List.length_append,List.length_singleton];omega
theorem Qm5 {ps:List Int} {t:Int} (h:∀ x ∈ ps,Hs x) (ht:1<=t/\t<=10):∀ x ∈ ps++[t],Hs x:=fun x a=>by
 rcases List.mem_append.1 a with a|a
 ·exact h x a
 ·rw[List.mem_singleton.1 a];exact Xc ht
theorem Pg {α:Type} (l:List α) (x:α):(l++[x]).length=l.length+1:=by simp
theorem Qgd {j n:Int} (hj:0<=j/\j<=n) (h:j < n):0<=j+1/\j+1<=n:=OC
theorem Qon {j n:Int} {l:Nat} (hj:0<=j/\j<=n) (h:l=j.toNat):l+1=(j+1).toNat:=OC
theorem Qqa {j n:Int} {F:List Ca} (hj:0<=j/\j<=n) (hn:0<=n/\n < 4) (h:¬ j < n) (hF:F.length=j.toNat):F.length=n.toNat:=OC
theorem Qqg {P l:Nat} (hP:P<=300000000) (hl:l<=3):P+1+20 * l<=1000000000:=OC
theorem Qqw {v:Int} (_h:0<=v/\v < 6):v=0\/¬ v=0:=OC
theorem Qb5 : Hs 2:=by unfold Hs;omega
def Jg (M2 M3:Nat) (a j:Int):Nat:=M2 * j.toNat+(if a < j then M3 else 0)
theorem Qio {P0 PB:Nat} (h:P0<=PB) (M2 M3:Nat) (a j:Int):P0<=PB+Jg M2 M3 a j:=Nat.le_trans h (Nat.le_add_right _ _)
theorem Lm {M2 M3:Nat} {a j n:Int} (hj:0<=j/\j<=n) (hn:0<=n/\n < 4):Jg M2 M3 a j<=3 * M2+M3:=by
 unfold Jg;have b:M2 * j.toNat<=M2 * 3:=Nat.mul_le_mul_left _ OC;split <;> omega
theorem Qih (M2 M3:Nat) (j:Int) (hj:0<=j):Jg M2 M3 j j+M3+M2=Jg M2 M3 j (j+1):=by
 unfold Jg;rw[if_neg OC,if_pos OC,show (j+1).toNat=j.toNat+1 by omega,Nat.mul_add];omega
theorem Qip (M2 M3:Nat) {a:Int} (j:Int) (hj:0<=j) (h:¬ j=a):Jg M2 M3 a j+M2=Jg M2 M3 a (j+1):=by
 unfold Jg;rw[show (j+1).toNat=j.toNat+1 by omega,Nat.mul_add];by_cases h1:a < j
 ·rw[if_pos h1,if_pos OC];omega
 ·rw[if_neg h1,if_neg OC];omega
theorem Qor {M:Nat} (h:7 * Cj 2=M):M<=13200000:=by rw[<- h];decide
theorem Qos {M:Nat} (h:7 * Cj 3=M):M<=158000000:=by rw[<- h];decide
theorem Yx {PB M2 M3:Nat} {a j n:Int} (hP:PB<=300000100) (h2:M2<=13200000) (h3:M3<=158000000) (hj:0<=j/\j<=n) (hn:0<=n/\n < 4):PB+Jg M2 M3 a j+M3<=700000000:=by have:=Lm (M2:=M2) (M3:=M3) (a:=a) hj hn;omega
theorem W7 {PB M2 M3:Nat} {a j n:Int} (hP:PB<=300000100) (h2:M2<=13200000) (h3:M3<=158000000) (e:7 * Cj 3=M3) (hj:0<=j/\j<=n) (hn:0<=n/\n < 4):PB+Jg M2 M3 a j+7 * Cj 3<=700000000:=by rw[e];exact Yx hP h2 h3 hj hn
theorem Qii {PB M2 M3:Nat} {a j n:Int} (hP:PB<=300000100) (h2:M2<=13200000) (h3:M3<=158000000) (e:7 * Cj 2=M2) (hj:0<=j/\j<=n) (hn:0<=n/\n < 4):PB+Jg M2 M3 a j+M3+7 * Cj 2<=700000000:=by rw[e];have:=Lm (M2:=M2) (M3:=M3) (a:=a) hj hn;omega
theorem Qij {PB M2 M3:Nat} {a j n:Int} (hP:PB<=300000100) (h2:M2<=13200000) (h3:M3<=158000000) (e:7 * Cj 2=M2) (hj:0<=j/\j<=n) (hn:0<=n/\n < 4):PB+Jg M2 M3 a j+7 * Cj 2<=700000000:=by rw[e];have:=Lm (M2:=M2) (M3:=M3) (a:=a) hj hn;omega
theorem Q6 {M2 M3:Nat} {a j n:Int} (h2:M2<=13200000) (h3:M3<=158000000) (hj:0<=j/\j<=n) (hn:0<=n/\n < 4):Jg M2 M3 a j+M3<=1000000000:=by have:=Lm (M2:=M2) (M3:=M3) (a:=a) hj hn;omega
theorem Qik {M2 M3:Nat} {a j n:Int} (h2:M2<=13200000) (h3:M3<=158000000) (hj:0<=j/\j<=n) (hn:0<=n/\n < 4):Jg M2 M3 a j+M3+M2<=1000000000:=by have:=Lm (M2:=M2) (M3:=M3) (a:=a) hj hn;omega
theorem Qil {M2 M3:Nat} {a j n:Int} (h2:M2<=13200000) (h3:M3<=158000000) (hj:0<=j/\j<=n) (hn:0<=n/\n < 4):Jg M2 M3 a j+M2<=1000000000:=by have:=Lm (M2:=M2) (M3:=M3) (a:=a) hj hn;omega
theorem Qim {M2 M3:Nat} {a j n:Int} (h2:M2<=13200000) (h3:M3<=158000000) (hj:0<=j/\j<=n) (hn:0<=n/\n < 4):Jg M2 M3 a j+M3+1<=1000000000:=by have:=Lm (M2:=M2) (M3:=M3) (a:=a) hj hn;omega
theorem Qin {M2 M3:Nat} {a j n:Int} (h2:M2<=13200000) (h3:M3<=158000000) (hj:0<=j/\j<=n) (hn:0<=n/\n < 4):Jg M2 M3 a j+1<=1000000000:=by have:=Lm (M2:=M2) (M3:=M3) (a:=a) hj hn;omega
theorem Qby {M2 M3:Nat} {j:Int} {n:Int} (hj:0<=j/\j<=n) (hn:0<=n/\n < 4):Jg M2 M3 j j<=3 * M2:=by
 unfold Jg;have a:M2 * j.toNat<=M2 * 3:=Nat.mul_le_mul_left _ OC;rw[if_neg OC];omega
theorem Qiq {M2 M3:Nat} {j n:Int} (h2:M2<=13200000) (h3:M3<=158000000) (hj:0<=j/\j<=n) (hn:0<=n/\n < 4):Jg M2 M3 j j+M3+1<=300000000:=by have:=Qby (M2:=M2) (M3:=M3) hj hn;omega
theorem Qir {M2 M3:Nat} {a j n:Int} (h2:M2<=13200000) (h3:M3<=158000000) (hj:0<=j/\j<=n) (hn:0<=n/\n < 4):Jg M2 M3 a j+1<=300000000:=by have:=Lm (M2:=M2) (M3:=M3) (a:=a) hj hn;omega
theorem Qis {P PB M2 M3:Nat} {j n:Int} (hP:PB<=P+100) (h2:M2<=13200000) (h3:M3<=158000000) (hj:0<=j/\j<=n) (hn:0<=n/\n < 4):PB+Jg M2 M3 j j+M3<=P+200000000:=by have:=Qby (M2:=M2) (M3:=M3) hj hn;omega
theorem Qit {P PB M2 M3:Nat} {a j n:Int} (hP:PB<=P+100) (h2:M2<=13200000) (h3:M3<=158000000) (hj:0<=j/\j<=n) (hn:0<=n/\n < 4):PB+Jg M2 M3 a j<=P+200000000:=by have:=Lm (M2:=M2) (M3:=M3) (a:=a) hj hn;omega
theorem Qov {P PB l:Nat} (h:P+100=PB) (hl:l<=3):P+1+20 * l+1+1<=PB:=OC
theorem Qm2 {P PB:Nat} (h:P+100=PB) (hl:P<=300000000):PB<=300000100:=OC
theorem Qqb {n:Int} (hn:0<=n/\n < 4):1<=n+1:=OC
theorem Qqc {n:Int} (hn:0<=n/\n < 4):n+1<=1000000000:=OC
theorem Qp4 {n:Int} (hn:0<=n/\n < 4):wrap64 (n+1)=n+1:=IntWalk.wrap64_in _ OC
theorem Qqh {P l:Nat} (hP:P<=300000000) (hl:l<=3):P+1+20 * l+1<=1000000000:=OC
theorem Qml {j n:Int} {fl:Nat} (hj:0<=j/\j<=n) (h:n.toNat<=fl) (hl:j < n):j < (fl:Int):=OC
theorem Qmn {j n:Int} {k fl:Nat} (hj:0<=j/\j<=n) (h:j < (fl:Int)) (hk:j.toNat=k):k < fl:=OC
theorem Qoo {j n:Int} (hj:0<=j/\j<=n) (h:¬ j < n):j=n:=OC
def Z7 (R P:Nat) (w:World) (e:Ending) (w':World):Prop := ∃ a n c p',e = .returned (.agg #[.slice a n c])/\As w.heap.size w' (.slice a n c) 300000000/\p'<=P+200000000/\Dn w' R p'/\Ak R w w'
theorem Tu {R g P n c:Nat} {w w9:World} {a:Option Addr} {nv:Value} {nl:List (ByteArray × Int)} {fv:Value} {F:List Ca} {ret loops count size:Int} (hs:Aw R g R (P+200000000) w9 nv nl fv F ret loops count size) (hr:As w.heap.size w9 (.slice a n c) 300000000) (hf:Ak R w w9) (hT:w9.heap[w.heap.size]? = some (.cells #[.slice none 0 0] 25)) (hR:R < w.heap.size) :
  Z7 R P w (.returned (.agg #[.slice a n c])) (w9.setCell (OK w.heap.size 0) (.slice a n c)):=by
 obtain⟨p,j,d⟩:=hs.rd;obtain⟨l,h,i,f⟩:=hr;refine⟨a,n,c,p,rfl,⟨l,h,i,B1 f (fun k hk _ _=>Bd (fun e => ?_))⟩,j,H6 d (fun k hk=>Bd OC),⟨hf.os,hf.tape,hf.output,Nat.le_trans hf.size (by simp[World.setCell]),fun k hk1 hk2=>(Bd OC).trans (hf.keep k hk1 hk2)⟩⟩;obtain⟨_,m,b⟩:=A8 f hk;subst e;rw[hT]at b;injection b with b;injection b with _ b _;exact absurd b OD
end Go.Proofs.YtjlaedokfbcbpaaGreatDoor
