import Derived.Test.YtfjkahdghhbpnaaGreatDoorKScanA
import Derived.Test.YtfjkahdghhbpnaaGreatDoorKCdA
import Derived.Maps.AppendAt
import Derived.Lib.Builder
import Derived.Lib.AppendStr
import Derived.Lib.UnsafeStr
import Derived.Deep.RegionHeld3
import Derived.Test.YtfjkahdghhbpnaaGreatDoorKCdYA
import Derived.BigQuiet
import Derived.Test.YtfjkahdghhbpnaaGreatDoorKCdN
import Derived.Deep.RegionLaw
import Derived.Deep.RegionWith
import Derived.Test.YtfjkahdghhbpnaaGreatDoorKCeJ
set_option maxRecDepth 100000
set_option maxHeartbeats 2000000
namespace Go.Proofs.YtfjkahdghhbpnaaGreatDoor
open Go.RowKit
theorem Di (w:World) (o:Obj):Below w.heap.size w (w.alloc o):=(Below.refl _ w).alloc (Nat.le_refl _) o
theorem Bt.sound {c:List Ae} {r:Int × Int × Int} (h:Bt c r) (hr:r.1=0):Gj c:=by
 by_cases hp:(B6 c).1=0
 ·exact Jw hp
 ·unfold Bt at h
  rw[if_pos hp]at h
  rw[h]at hr
  exact absurd hr hp
theorem Qda (c:List Ae) (ca:Option Addr) (cc:Nat) (hcl:c.length<=1048576) (hpl:∀ k (hk:k < c.length),c[k].params.length<=1048576/\c[k].ins.length<=1048576) (w:World) (hC:Ak w.heap.size w (.slice ca c.length cc) c) :
  Calls Tryz.prog 19 #[.agg #[.slice ca c.length cc]] w fun e w'=>(∃ r,e = .returned (.bool (decide (r.1=0)))/\Bt c r)/\Below w.heap.size w w':=by
 have j:Hid (∀ o:Obj,Calls Tryz.prog 45 #[.agg #[.slice ca c.length cc]] (w.alloc o) (Jd c (w.alloc o))):=fun o=>P4 c ca cc hcl hpl (w.alloc o) (Ak.mono (hC.below (Di w o)) (by simp))
 clear hC hpl
 go_enter Tryz.func19,Tryz.ntmps19
 go_wp2_with (first|(go_at_call 45;refine(j.out _).mono ?_;rintro e l ⟨⟨⟨d,f,g⟩,rfl,a⟩,b⟩;unfold Kd;simp only;have i:Hid (Bt c (d,f,g)):=a;clear a))
 go_ret
 refine⟨⟨(d,f,g), ?_,i.out⟩,(Di w _).trans (b.mono (by simp))⟩
 by_cases h:d=0
 ·subst h;rfl
 ·simp[h]
end Go.Proofs.YtfjkahdghhbpnaaGreatDoor
namespace Go.Proofs.YtfjkahdghhbpnaaGreatDoor
def P8 (i:Ax):Prop:=(0<=i.op/\i.op<=16)/\(0<=i.a/\i.a<=50000)/\(-9223372036854775808<=i.n/\i.n<=9223372036854775807)/\i.text.size<=3000/\(C3 i.op=false->i.a=0)/\(i.op≠1->i.n=0/\i.text=⟨#[]⟩)/\(i.op=1->i.a=2->i.n=0)/\(i.op=1->i.a≠2->i.text=⟨#[]⟩)
def Qdm (f:Ae):Prop:=f.name.size<=30/\f.params.length<=8/\(∀ t ∈ f.params,0<=t/\t<=10)/\(0<=f.result/\f.result<=10)/\(0<=f.slots/\f.slots<=200)/\f.ins.length<=50000/\∀ i ∈ f.ins,P8 i
def Qd4 (c:List Ae):Prop:=c.length<=60/\∀ f ∈ c,Qdm f
open Go.RowKit
structure Au (S:Nat->Prop) (w w':World):Prop where
 os:w'.os=w.os
 tape:w'.tape=w.tape
 output:w'.output=w.output
 size:w.heap.size<=w'.heap.size
 keep:∀ k,k < w.heap.size->¬ S k->w'.heap[k]? = w.heap[k]?
theorem Au.refl (S:Nat->Prop) (w:World):Au S w w:=⟨rfl,rfl,rfl,Nat.le_refl _,fun _ _ _=>rfl⟩
theorem Au.trans {S:Nat->Prop} {a b c:World} (h:Au S a b) (k:Au S b c):Au S a c :=
 ⟨k.os.trans h.os,k.tape.trans h.tape,k.output.trans h.output,Nat.le_trans h.size k.size,fun i hi hs=>(k.keep i (Nat.lt_of_lt_of_le hi h.size) hs).trans (h.keep i hi hs)⟩
theorem Au.mono {S R:Nat->Prop} {a b:World} (h:Au S a b) (hs:∀ k,S k->R k):Au R a b:=⟨h.os,h.tape,h.output,h.size,fun i hi hr=>h.keep i hi (fun x=>hr (hs i x))⟩
theorem Au.of_below {S:Nat->Prop} {a b:World} (h:Below a.heap.size a b):Au S a b:=⟨h.os,h.tape,h.output,h.size,fun i hi _=>h.block i hi⟩
theorem Au.set {S:Nat->Prop} (w:World) (g i:Nat) (v:Value) (hg:S g):Au S w (w.setCell ⟨g,i,none⟩ v) :=
 ⟨rfl,rfl,rfl,by simp[World.setCell],fun _ _ hk=>Below.heap_setCell _ _ _ _ (fun e=>hk (by rw[e];exact hg))⟩
theorem Au.below {S:Nat->Prop} {B:Nat} {w w':World} (h:Au S w w') (hB:B<=w.heap.size) (hs:∀ k,k < B->¬ S k):Below B w w':=⟨h.os,h.tape,h.output,h.size,fun k hk=>h.keep k (by omega) (hs k hk)⟩
theorem Qdl {x y:ByteArray} (h:x.data.toList=y.data.toList):x=y:=by
 cases x;cases y;congr 1;exact Array.toList_inj.1 h
theorem Jl {w:World} {g:Nat} {a b c d:Value} {t:TypeId} (h:w.heap[g]? = some (.cells #[a,b,c,d] t)):(w.cell? ⟨g,0,none⟩=some a/\w.cell? ⟨g,1,none⟩=some b/\w.cell? ⟨g,2,none⟩=some c/\w.cell? ⟨g,3,none⟩=some d)/\(w.frozen? ⟨g,0,none⟩=false/\w.frozen? ⟨g,1,none⟩=false/\w.frozen? ⟨g,2,none⟩=false/\w.frozen? ⟨g,3,none⟩=false):=by
 refine⟨⟨?_, ?_, ?_, ?_⟩, ?_, ?_, ?_, ?_⟩
 ·rw[Lib.cell_of_heap h];rfl
 ·rw[Lib.cell_of_heap h];rfl
 ·rw[Lib.cell_of_heap h];rfl
 ·rw[Lib.cell_of_heap h];rfl
 all_goals simp[World.frozen?,h]
theorem A6 {w:World} {g i:Nat} {arr:Array Value} {t:TypeId} {v:Value} (h:w.heap[g]? = some (.cells arr t)):(w.setCell ⟨g,i,none⟩ v).heap[g]? = some (.cells (arr.setIfInBounds i v) t):=by
 simp[World.setCell,Array.getElem?_modify,h]
theorem A7 {w:World} {g i k:Nat} {v:Value} (h:k≠g):(w.setCell ⟨g,i,none⟩ v).heap[k]? = w.heap[k]?:=Below.heap_setCell _ _ _ _ h
theorem Ah {w w':World} {B e size n:Nat} {v:Value} {xs:List Value} (h:w.ownsRow B e size v n xs) (hk:∀ k,v.ownBlock=some k->B<=k->k < w.heap.size->w'.heap[k]? = w.heap[k]?):w'.ownsRow B e size v n xs:=by
 obtain⟨i,c⟩:=h
 refine⟨i, ?_⟩
 rcases c with c|⟨g,a,b,rfl,d,f,r⟩
 ·exact .inl c
 ·exact .inr ⟨g,a,b,rfl,d,(hk g rfl d (Array.getElem?_eq_some_iff.1 f).1).trans f,r⟩
def Bm (l:List Ax):List Value:=l.flatMap Cz
theorem Pa (a b:List Ax):Bm (a++b)=Bm a++Bm b:=List.flatMap_append
theorem Ch {w:World} {g:Nat} {a b c d e:Value} {t:TypeId} (h:w.heap[g]? = some (.cells #[a,b,c,d,e] t)):(w.cell? ⟨g,0,none⟩=some a/\w.cell? ⟨g,1,none⟩=some b/\w.cell? ⟨g,2,none⟩=some c/\w.cell? ⟨g,3,none⟩=some d/\w.cell? ⟨g,4,none⟩=some e)/\(w.frozen? ⟨g,0,none⟩=false/\w.frozen? ⟨g,1,none⟩=false/\w.frozen? ⟨g,2,none⟩=false/\w.frozen? ⟨g,3,none⟩=false/\w.frozen? ⟨g,4,none⟩=false):=by
 refine⟨⟨?_, ?_, ?_, ?_, ?_⟩, ?_, ?_, ?_, ?_, ?_⟩
 ·rw[Lib.cell_of_heap h];rfl
 ·rw[Lib.cell_of_heap h];rfl
 ·rw[Lib.cell_of_heap h];rfl
 ·rw[Lib.cell_of_heap h];rfl
 ·rw[Lib.cell_of_heap h];rfl
 all_goals simp[World.frozen?,h]
theorem D4 (w:World) (l:List Value) (t:TypeId):∀ j u,l[j]? = some u->(w.alloc (.cells l.toArray t)).cell? ((⟨w.heap.size,0,none⟩:Addr).add j)=some u:=by
 intro j u a
 have h:=(MapKept.heap_alloc w (.cells l.toArray t)).1
 have e:(⟨w.heap.size,0,none⟩:Addr).add j=⟨w.heap.size,j,none⟩:=by
  rcases Nat.eq_zero_or_pos j with rfl|b
  ·rfl
  ·simp[Addr.add];omega
 rw[e,Lib.cell_of_heap h];simpa using a
theorem A3 {w:World} {B e size n:Nat} {v:Value} {xs:List Value} (h:w.ownsRow B e size v n xs) {k:Nat} (hk:v.ownBlock=some k):(B<=k/\k < w.heap.size)/\∃ a,w.heap[k]? = some (.cells a e):=by
 rcases h.2 with⟨rfl,f⟩|⟨g,c,a,rfl,d,b,_⟩
 ·simp[Value.ownBlock]at hk
 ·have:g=k:=by simpa[Value.ownBlock]using hk
  subst this
  exact⟨⟨d,(Array.getElem?_eq_some_iff.1 b).1⟩,a,b⟩
theorem Wh {w:World} {B e size n:Nat} {v:Value} {xs:List Value} (h:w.ownsRow B e size v n xs) {k:Nat} {cur:Array Value} {e':TypeId} (hk:w.heap[k]? = some (.cells cur e')) (hne:e≠e'):some k≠v.ownBlock:=fun hh=>by
 obtain⟨-,c,a⟩:=A3 h hh.symm
 rw[a]at hk
 injection hk with hk;injection hk with _ hk
 exact hne hk
theorem Fo {W2 w3:World} {o:Obj} {row:Option Nat} (hg:(W2.alloc o).grownBy w3 row) {k:Nat} (hk:k < W2.heap.size) (hne:some k≠row):w3.heap[k]? = W2.heap[k]?:=by
 rw[hg.block k (by simp;omega) hne]
 exact(Di W2 o).block k hk
theorem Ji {W2 w3:World} {o:Obj} {v u:Value} {B e size n B' e' size' n':Nat} {xs xs':List Value} (hv:W2.ownsRow B e size v n xs) (hu:W2.ownsRow B' e' size' u n' xs') (he:e≠e') (hg:(W2.alloc o).grownBy w3 v.ownBlock):w3.ownsRow B' e' size' u n' xs' :=
 Ah hu (fun k hk _ h2=>Fo hg h2 (by obtain⟨-,c,a⟩:=A3 hu hk;exact Wh hv a he))
theorem L1 {w:World} {B e size n:Nat} {v:Value} {xs:List Value} (h:w.ownsRow B e size v n xs) {X j:Nat} {x:Value} {cur:Array Value} {t:TypeId} (hX:w.heap[X]? = some (.cells cur t)) (hne:e≠t):(w.setCell ⟨X,j,none⟩ x).ownsRow B e size v n xs :=
 Ah h (fun k hk _ _=>A7 (fun e2=>by subst e2;exact Wh h hX hne hk.symm))
theorem Pc {P:Program} {ops:Array Oper} {o:Oper} {a:Act} {w:World} {K:Act->World->Prop} {Q:Exit->Act->World->Prop} {E:Prop}
  (hg:o.guard=none) (s x:Operand) (t:TypeId) (hop:o.op=Op.call { callee:=Callee.builtin Builtin.append,args := #[s,x],argTypes := #[t,t] })
  (base:Nat) (e:TypeId) (i:TypeInfo) (z:Value) (size bytes:Nat) (h1:P.underlying t=some (.slice e)) (h2:P.info? e=some i) (h3:i.zero=some z) (h4:i.size=size) (h5:i.bytes=bytes) (h6:z.cells.size=size) (h7:0 < size)
  (v:Value) (n:Nat) (xs:List Value) (hs:a.eval s=v) (hown:w.ownsRow base e size v n xs)
  (ad:Addr) (m c:Nat) (news:List Value) (hx:a.eval x = .slice (some ad) m c) (hn:news.length=m * size) (hc:∀ j u,news[j]? = some u->w.cell? (ad.add j)=some u) (h1c:∀ u ∈ news,u.oneCell'=true)
  (b1:n+m<=maxLen) (b2:(n+m) * bytes<=140737488355328) (hbase:base<=w.heap.size)
  (hK:∀ d w',w'.ownsRow base e size d (n+m) (xs++news)->w.grownBy w' v.ownBlock->K (a.put o.dst d) w') :
  if Region.wanted o (yielded ops a.tmps)=true then Oper.wp P o a w K Q else E:=by
 have f:Region.wanted o (yielded ops a.tmps)=true:=by simp[Region.wanted,hg]
 rw[if_pos f]
 obtain⟨d,w',b,g,h,_,_⟩:=run_append_own_at (P:=P) (w:=w) base t o.type e i z size bytes h1 h2 h3 h4 h5 h6 h7 v n xs hown ad m c news hn hc h1c b1 b2 hbase
 unfold Oper.wp
 simp[execOp,hop,resolve,invoke,builtin,hs,hx,b,Result.andThen]
 exact hK d w' g h
theorem M6 {t:ByteArray} (h:t.toList.isEmpty=true):t=⟨#[]⟩:=by
 have a:t.toList=[]:=by simpa using h
 have b:t.data.toList=[]:=by rw[<- ByteArray.toList_eq];exact a
 exact Qdl b
theorem Ii {n a b:Int} (h:A4 n a b=true):a<=n/\n<=b:=by unfold A4 at h;simpa using h
theorem X6 {c:List Ae} {f:Ae} {i:Ax} (hc:c.length<=60) (hf:f.slots<=200/\f.ins.length<=50000) (hn : -9223372036854775808<=i.n/\i.n<=9223372036854775807) (h:At c f i=true):P8 i:=by
 obtain⟨o,a,n,t⟩:=i
 simp only at hn
 unfold At at h
 simp only at h
 by_cases hc1:A4 o 1 16=false\/(C3 o=false/\a≠0)
 ·rw[if_pos hc1]at h;cases h
 rw[if_neg hc1]at h
 have q:1<=o/\o<=16:=Ii (by
  cases hx:A4 o 1 16 with
  | true=>rfl
  | false=>exact absurd (.inl hx) hc1)
 have g:C3 o=false->a=0:=fun hx=>by
  by_cases d:a=0
  ·exact d
  ·exact absurd (.inr ⟨hx,d⟩) hc1
 unfold P8
 simp only
 by_cases h1:o=1
 ·rw[if_pos h1]at h
  unfold Cn at h
  simp only at h
  by_cases a1:a=1
  ·rw[if_pos a1,Bool.and_eq_true]at h
   have b:=M6 h.2
   exact⟨by omega,by omega,hn,by rw[b];exact Nat.zero_le _,g,fun e=>absurd h1 e,fun _ e=>by omega,fun _ _=>b⟩
  ·rw[if_neg a1]at h
   by_cases a2:a=2
   ·rw[if_pos a2,Bool.and_eq_true,decide_eq_true_eq,decide_eq_true_eq]at h
    exact⟨by omega,by omega,hn,h.2,g,fun e=>absurd h1 e,fun _ _=>h.1,fun _ e=>absurd a2 e⟩
   ·rw[if_neg a2,Bool.and_eq_true,Bool.and_eq_true]at h
    have b:=M6 h.1.2
    have k:=h.1.1
    unfold Bf at k
    have d:0<=a/\a<=50000:=by simp at k;omega
    exact⟨by omega,d,hn,by rw[b];exact Nat.zero_le _,g,fun e=>absurd h1 e,fun _ e=>absurd e a2,fun _ _=>b⟩
 ·rw[if_neg h1]at h
  by_cases h2:n≠0\/t.toList.isEmpty=false
  ·rw[if_pos h2]at h;cases h
  rw[if_neg h2]at h
  have j:n=0:=by
   by_cases hx:n=0
   ·exact hx
   ·exact absurd (.inl hx) h2
  have b:t=⟨#[]⟩:=M6 (by
   cases hx:t.toList.isEmpty with
   | true=>rfl
   | false=>exact absurd (.inr hx) h2)
  have d:0<=a/\a<=50000:=by
   by_cases c1:o=2\/o=3
   ·rw[if_pos c1]at h;have:=Ii h;omega
   rw[if_neg c1]at h
   by_cases c2:o=5
   ·rw[if_pos c2]at h;have:=Ii h;omega
   rw[if_neg c2]at h
   by_cases c3:o=6
   ·rw[if_pos c3]at h;have:=Ii h;omega
   rw[if_neg c3]at h
   by_cases c4:o=7
   ·rw[if_pos c4]at h;unfold Cf at h;simp at h;omega
   rw[if_neg c4]at h
   by_cases c5:o=8
   ·rw[if_pos c5]at h;have:=Ii h;omega
   rw[if_neg c5]at h
   by_cases c6:o=9
   ·rw[if_pos c6]at h;have:=Ii h;omega
   rw[if_neg c6]at h
   by_cases c7:o=10\/o=11
   ·rw[if_pos c7]at h;have:=Ii h;omega
   rw[if_neg c7]at h
   by_cases c8:o=12
   ·rw[if_pos c8]at h
    have:a=1\/a=0:=by
     simp only[Bool.or_eq_true,Bool.and_eq_true,decide_eq_true_eq]at h
     rcases h with h|h
     ·exact .inl h.1
     ·exact .inr h.1
    omega
   have:a=0:=g (by
    unfold C3 A4
    have l:decide (o=1)=false:=by simp[h1]
    have m:decide (o=2)=false:=by simp;omega
    have p:decide (o=3)=false:=by simp;omega
    rw[l,m,p]
    simp
    omega)
   omega
  exact⟨by omega,d,hn,by rw[b];exact Nat.zero_le _,g,fun _=>⟨j,b⟩,fun e=>absurd e h1,fun e=>absurd e h1⟩
def X9 (c:List Ae):Prop := ∀ f ∈ c,∀ i ∈ f.ins,-9223372036854775808<=i.n/\i.n<=9223372036854775807
theorem X8 {c:List Ae} (h:Gj c) (hw:X9 c):Qd4 c:=by
 refine⟨h.len,fun f hf => ?_⟩
 obtain⟨k,b,rfl⟩:=List.getElem_of_mem hf
 have a:=Fk (h.fns k b)
 have d:=h.fns k b
 unfold Bw Br at d
 simp only[Bool.and_eq_true,decide_eq_true_eq]at d
 refine⟨by omega,a.2.2.2.2.1,fun t ht => ?_,⟨a.2.2.2.2.2.2.1,a.2.2.2.2.2.2.2.1⟩,⟨a.1,a.2.1⟩,a.2.2.1,fun i hi => ?_⟩
 ·have:=a.2.2.2.2.2.2.2.2 t ht;omega
 ·obtain⟨j,g,rfl⟩:=List.getElem_of_mem hi
  exact X6 h.len ⟨a.2.1,a.2.2.1⟩ (hw _ hf _ hi) (h.ins k b j g)
structure B0 where
 f:Ae
 p:Value
 i:Value
def D0 (E:List B0):List Ae:=E.map (fun e=>e.f)
theorem Gq (E:List B0):(D0 E).length=E.length:=List.length_map _
theorem Qan (E:List B0) (k:Nat) (hk:k < (D0 E).length):(D0 E)[k]=(E[k]'(by rw[Gq]at hk;exact hk)).f:=List.getElem_map _
theorem Wg (E F:List B0):D0 (E++F)=D0 E++D0 F:=List.map_append
def Ez (e:B0):List Value:=[.string e.f.name,e.p,.int .i64 e.f.result,.int .i64 e.f.slots,e.i]
def E4 (E:List B0):List Value:=E.flatMap Ez
theorem Qam (a b:List B0):E4 (a++b)=E4 a++E4 b:=List.flatMap_append
structure A2 (A:Nat) (w:World) (v:Value) (E:List B0):Prop where
 row:w.ownsRow A 97 5 v E.length (E4 E)
 par:∀ e ∈ E,w.ownsRow A 3 1 e.p e.f.params.length (Al e.f.params)
 ins:∀ e ∈ E,w.ownsRow A 140 4 e.i e.f.ins.length (Bm e.f.ins)
 apart:E.Pairwise (fun a b=>(∀ k,a.p.ownBlock=some k->b.p.ownBlock≠some k)/\(∀ k,a.i.ownBlock=some k->b.i.ownBlock≠some k))
theorem A2.keep {A:Nat} {w w':World} {v:Value} {E:List B0} (h:A2 A w v E) (hk:∀ k,A<=k->k < w.heap.size->w'.heap[k]? = w.heap[k]?):A2 A w' v E :=
 ⟨Ah h.row (fun k _=>hk k),fun e he=>Ah (h.par e he) (fun k _=>hk k),fun e he=>Ah (h.ins e he) (fun k _=>hk k),h.apart⟩
theorem A2.below {A:Nat} {w w':World} {v:Value} {E:List B0} (h:A2 A w v E) (hb:Below w.heap.size w w'):A2 A w' v E:=h.keep (fun k _ hk=>hb.block k hk)
theorem Bc {w:World} {A B e size n:Nat} {v:Value} {xs:List Value} (h:w.ownsRow B e size v n xs) (hA:A<=B):w.ownsRow A e size v n xs:=by
 obtain⟨d,c⟩:=h
 refine⟨d, ?_⟩
 rcases c with c|⟨g,a,b,rfl,f,r⟩
 ·exact .inl c
 ·exact .inr ⟨g,a,b,rfl,Nat.le_trans hA f,r⟩
theorem A2.mono {A B:Nat} {w:World} {v:Value} {E:List B0} (h:A2 B w v E) (hA:A<=B):A2 A w v E:=⟨Bc h.row hA,fun e he=>Bc (h.par e he) hA,fun e he=>Bc (h.ins e he) hA,h.apart⟩
theorem A2.nil (A:Nat) (w:World):A2 A w (.slice none 0 0) []:=⟨⟨rfl,.inl ⟨rfl,rfl⟩⟩,fun e he=>by simp at he,fun e he=>by simp at he,List.Pairwise.nil⟩
theorem A2.add {A B:Nat} {U w3:World} {v v':Value} {E:List B0} {f:Ae} {pv iv:Value} {o:Obj} (h:A2 A U v E) (hp:U.ownsRow B 3 1 pv f.params.length (Al f.params)) (hi:U.ownsRow B 140 4 iv f.ins.length (Bm f.ins)) (hAB:A<=B) (hlt:∀ e ∈ E,∀ k,e.p.ownBlock=some k\/e.i.ownBlock=some k->k < B)
  (hn:w3.ownsRow A 97 5 v' (E.length+1) (E4 E++Ez ⟨f,pv,iv⟩)) (hg:(U.alloc o).grownBy w3 v.ownBlock):A2 A w3 v' (E++[⟨f,pv,iv⟩]):=by
 have d:∀ e ∈ E++[(⟨f,pv,iv⟩:B0)],e ∈ E\/e=⟨f,pv,iv⟩:=fun e he=>by
  rcases List.mem_append.1 he with c|c
  ·exact .inl c
  ·exact .inr (List.mem_singleton.1 c)
 refine⟨?_,fun e he => ?_,fun e he => ?_, ?_⟩
 ·have g:E4 [(⟨f,pv,iv⟩:B0)]=Ez ⟨f,pv,iv⟩:=by simp[E4]
  rw[Qam,g,List.length_append,List.length_singleton];exact hn
 ·rcases d e he with c|rfl
  ·exact Ji h.row (h.par e c) (by decide) hg
  ·exact Ji h.row (Bc hp hAB) (by decide) hg
 ·rcases d e he with c|rfl
  ·exact Ji h.row (h.ins e c) (by decide) hg
  ·exact Ji h.row (Bc hi hAB) (by decide) hg
 ·refine List.pairwise_append.2 ⟨h.apart,List.pairwise_singleton _ _,fun a ha b hb => ?_⟩
  rw[List.mem_singleton.1 hb]
  refine⟨fun k c h2 => ?_,fun k c h2 => ?_⟩
  ·have:=hlt a ha k (.inl c);have:=(A3 hp h2).1.1;omega
  ·have:=hlt a ha k (.inr c);have:=(A3 hi h2).1.1;omega
theorem A2.lt {A:Nat} {w:World} {v:Value} {E:List B0} (h:A2 A w v E):∀ e ∈ E,∀ k,e.p.ownBlock=some k\/e.i.ownBlock=some k->k < w.heap.size:=fun e he k a=>by
 rcases a with a|a
 ·exact(A3 (h.par e he) a).1.2
 ·exact(A3 (h.ins e he) a).1.2
theorem G2 {α:Type} (f:α->List Value) (m:Nat) (hm:∀ a,(f a).length=m):∀ (l:List α) (u:Nat) (hu:u < l.length) (j:Nat),j < m->(l.flatMap f)[u * m+j]? = (f l[u])[j]?
 | [],u,hu,_,_=>by simp at hu
 | a::l,0,_,j,hj=>by rw[List.flatMap_cons,Nat.zero_mul,Nat.zero_add,List.getElem?_append_left (by rw[hm];exact hj)];rfl
 | a::l,u+1,hu,j,hj=>by
  rw[List.flatMap_cons,List.getElem?_append_right (by rw[hm,Nat.succ_mul];omega),hm]
  have e:(u+1) * m+j - m=u * m+j:=by rw[Nat.succ_mul];omega
  rw[e,G2 f m hm l u (by simpa using hu) j hj];rfl
theorem Bp {w:World} {B e size n:Nat} {v:Value} {xs:List Value} (h:w.ownsRow B e size v n xs) {g:Nat} (hg:v.ownBlock=some g) (j:Nat) (u:Value) (hu:xs[j]? = some u):w.cell? ⟨g,j,none⟩=some u:=by
 have a:=h.cells hg j u hu
 have b:(⟨g,0,none⟩:Addr).add j=⟨g,j,none⟩:=by
  rcases Nat.eq_zero_or_pos j with rfl|c
  ·rfl
  ·simp[Addr.add];omega
 rw[b]at a;exact a
theorem Iy {w:World} {B e size n:Nat} {v:Value} {xs:List Value} (h:w.ownsRow B e size v n xs) (hn:0 < n):∃ g a,v = .slice (some ⟨g,0,none⟩) n a/\v.ownBlock=some g/\g < w.heap.size:=by
 rcases h.2 with⟨rfl,d⟩|⟨g,a,b,rfl,_,c,_⟩
 ·omega
 ·exact⟨g,a,rfl,rfl,(Array.getElem?_eq_some_iff.1 c).1⟩
theorem Qap {w:World} {B n:Nat} {v:Value} {l:List Int} (h:w.ownsRow B 3 1 v n (Al l)) (hn:n=l.length):Ab w.heap.size w v l:=by
 subst hn
 obtain⟨a,b,rfl⟩:=Aq h
 refine⟨a,b,rfl,fun i hi => ?_⟩
 obtain⟨g,c,d,f,j⟩:=Iy h (by omega)
 injection d with d
 refine⟨g,0,d,j, ?_⟩
 rw[Nat.zero_add]
 exact Bp h f i _ (by simp[Al,hi])
theorem Qao {w:World} {B n:Nat} {v:Value} {l:List Ax} (h:w.ownsRow B 140 4 v n (Bm l)) (hn:n=l.length):Ba w.heap.size w v l:=by
 subst hn
 obtain⟨a,b,rfl⟩:=Aq h
 refine⟨a,b,rfl,fun i hi => ?_⟩
 obtain⟨g,c,d,k,m⟩:=Iy h (by omega)
 injection d with d
 refine⟨g,d,m,fun j hj => ?_⟩
 have o:=G2 Cz 4 (fun _=>rfl) l i hi j hj
 have f:(Cz l[i])[j]? = some ((Cz l[i])[j]'(by exact hj)):=List.getElem?_eq_getElem _
 rw[f]
 exact Bp h k _ _ (o.trans f)
theorem A2.code {A:Nat} {w:World} {v:Value} {E:List B0} (h:A2 A w v E):Ak w.heap.size w v (D0 E):=by
 obtain⟨a,d,rfl⟩:=Aq h.row
 refine⟨a,d,by rw[Gq],fun k hk => ?_⟩
 have b:k < E.length:=by rw[Gq]at hk;exact hk
 obtain⟨g,c,f,l,m⟩:=Iy h.row (by omega)
 injection f with f
 rw[Qan]
 refine⟨g,E[k].p,E[k].i,f,m,fun j hj => ?_,Qap (h.par E[k] (List.getElem_mem b)) rfl,Qao (h.ins E[k] (List.getElem_mem b)) rfl⟩
 have n:=G2 Ez 5 (fun _=>rfl) E k b j hj
 have i:(Ez E[k])[j]? = some ((Ez E[k])[j]'(by exact hj)):=List.getElem?_eq_getElem _
 have o:Ig E[k].f E[k].p E[k].i=Ez E[k]:=rfl
 rw[o,i]
 exact Bp h.row l _ _ (n.trans i)
theorem A2.len {A:Nat} {w:World} {v:Value} {E:List B0} (h:A2 A w v E):∃ a cap,v = .slice a E.length cap:=Aq h.row
theorem De {w:World} {g:Nat} {a:Value} {t:TypeId} (h:w.heap[g]? = some (.cells #[a] t)):w.cell? ⟨g,0,none⟩=some a/\w.frozen? ⟨g,0,none⟩=false:=⟨by rw[Lib.cell_of_heap h];rfl,by simp[World.frozen?,h]⟩
end Go.Proofs.YtfjkahdghhbpnaaGreatDoor
