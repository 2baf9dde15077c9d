import Derived.Test.YtfjkahdghhbpnaaGreatDoorKStR
import Derived.Test.YtfjkahdghhbpnaaGreatDoorKStW
import Derived.Test.YtfjkahdghhbpnaaGreatDoorKShC
import Derived.Test.YtfjkahdghhbpnaaGreatDoorKCgB
set_option maxRecDepth 100000
set_option maxHeartbeats 1000000
namespace Go.Proofs.YtfjkahdghhbpnaaGreatDoor
open Go.RowKit
def Fg (c:List Ae) (arg:ByteArray) (outs:List ByteArray) (b:Bool) (A:Nat) (W:World) (m:Value):Prop :=
 (b=false/\m=I0)\/(b=true/\(∃ r,Bt c r/\r.1=0)/\E9 arg outs=true/\∃ cv v av ov fv slv stv iv sv E,m=Kk cv av ov fv iv sv/\D0 E=c/\Fx A W cv v av ov fv slv stv iv sv E arg outs (Ft c) (Gd c))
theorem Fg.keep {c:List Ae} {arg:ByteArray} {outs:List ByteArray} {b:Bool} {A:Nat} {W W':World} {m:Value} (h:Fg c arg outs b A W m) (hk:∀ k,A<=k->k < W.heap.size->W'.heap[k]? = W.heap[k]?):Fg c arg outs b A W' m:=by
 rcases h with h|⟨j,l,n,g,v,f,s,i,a,d,r,t,E,o,p,q⟩
 ·exact .inl h
 ·exact .inr ⟨j,l,n,g,v,f,s,i,a,d,r,t,E,o,p,q.keep hk⟩
noncomputable def Qbt (c:List Ae) (arg:ByteArray) (outs:List ByteArray):Bool:=@decide ((∃ r,Bt c r/\r.1=0)/\E9 arg outs=true) (Classical.propDecidable _)
theorem Uf {c:List Ae} {arg:ByteArray} {outs:List ByteArray} {w w':World} {e:Ending} (h:Qa c arg outs w e w'):∃ m,e = .returned m/\Fg c arg outs (Qbt c arg outs) w.heap.size w' m/\Below w.heap.size w w':=by
 obtain⟨r,b,i,⟨s,rfl⟩|⟨j,a,l,v,k,x,n,f,g,u,y,E,rfl,o,p⟩⟩:=h
 ·refine⟨_,rfl,.inl ⟨?_,rfl⟩,i⟩
  refine @decide_eq_false _ (Classical.propDecidable _) ?_
  rintro⟨⟨q,t,d⟩,a⟩
  have:=b.one t
  subst this
  exact s ⟨d,a⟩
 ·refine⟨_,rfl,.inr ⟨?_,⟨r,b,j⟩,a,l,v,k,x,n,f,g,u,y,E,rfl,o,p⟩,i⟩
  exact @decide_eq_true _ (Classical.propDecidable _) ⟨⟨r,b,j⟩,a⟩
def Rv (x1:Option Addr) (n1 y1:Nat) (x2:Option Addr) (n2 y2:Nat) (x3:Option Addr) (n3 y3:Nat) (x4:Option Addr) (n4 y4:Nat) (s:Int) (x5:Option Addr) (y5:Nat) (x6:Option Addr) (y6:Nat):Array Value := #[.slice x1 n1 y1,.slice x2 n2 y2,.slice x3 n3 y3,.slice x4 n4 y4,.int .i64 s,.int .i64 0,.int .i64 0,.string ⟨#[]⟩,.string ⟨#[]⟩,.bool false,.int .i64 0,.string ⟨#[]⟩,.slice x5 0 y5,.slice x6 0 y6]
theorem Fg.form {c:List Ae} {arg:ByteArray} {outs:List ByteArray} {b:Bool} {A:Nat} {W:World} {m:Value} (h:Fg c arg outs b A W m):∃ d n1 l f n2 n g n3 o i n4 p s j q k r,m = .agg (Rv d n1 l f n2 n g n3 o i n4 p s j q k r):=by
 rcases h with⟨-,rfl⟩|⟨-,-,-,y,v,x,C,z,t,u,B,D,E,rfl,-,a⟩
 ·exact⟨none,0,0,none,0,0,none,0,0,none,0,0,0,none,0,none,0,rfl⟩
 ·obtain⟨d,l,rfl⟩:=Aq a.cod
  obtain⟨f,n,rfl⟩:=Aq a.args
  obtain⟨g,o,rfl⟩:=Aq a.outs
  obtain⟨i,p,rfl⟩:=Aq a.frm
  obtain⟨j,q,rfl⟩:=Aq a.fil
  obtain⟨k,r,rfl⟩:=Aq a.sai
  exact⟨d,1,l,f,1,n,g,_,o,i,1,p,1,j,q,k,r,rfl⟩
theorem Qdn {c:List Ae} {arg:ByteArray} {outs:List ByteArray} {b:Bool} {A B:Nat} {W:World} {m m':Value} (h:Fg c arg outs b A W m) (h':Fg c arg outs b B W m') (hl:c.length<=1048576) (hx:∀ k (hk:k < c.length),c[k].params.length<=1048576/\c[k].ins.length<=1048576) (hol:outs.length<=1048576) :
  Calls Tryz.prog 10 #[m,m'] W fun e w'=>e = .returned (.bool true)/\Below W.heap.size W w':=by
 rcases h with⟨rfl,rfl⟩|⟨rfl,⟨r,p,s⟩,-,F,v,D,I,G,x,y,H,J,E,rfl,n,o⟩
 ·rcases h' with⟨-,rfl⟩|⟨h,-⟩
  ·exact Pi W
  ·cases h
 ·rcases h' with⟨h,-⟩|⟨-,-,-,j,K,i,u,l,f,g,t,z,C,rfl,a,d⟩
  ·cases h
  ·exact Ph c o d n a hl hx hol (by obtain⟨-,-,-,q,-⟩:=Ik p s;omega)
def Ky (b:Bool) (A:Nat) (W:World) (m:Value) (K:Int):Prop :=
 (b=false/\m=I0/\K=1)\/(b=true/\∃ x1 x2 x3 x4 x5 x6 sa ta va y1 y2 y3 y4 y5 y6 sc tc vc,∃ (no ns:Nat) (E:List B0),m = .agg #[.slice x1 1 y1,.slice x2 1 y2,.slice x3 no y3,.slice x4 1 y4,.int .i64 1,.int .i64 0,.int .i64 0,.string ⟨#[]⟩,.string ⟨#[]⟩,.bool false,.int .i64 0,.string ⟨#[]⟩,.slice x5 0 y5,.slice x6 0 y6]/\G4 E/\no<=1000/\ns<=1000/\K=Ca 1 E+1+(no:Int)+1+1+1+3 * (ns:Int)/\Pe A W x1 x2 x3 x4 sa ta va y1 y2 y3 y4 sc tc vc no ns E (Ca 1 E) (Ca 1 E+1) (Ca 1 E+1+(no:Int)))
theorem Ky.below {b:Bool} {A:Nat} {W W':World} {m:Value} {K:Int} (h:Ky b A W m K) (hb:Below W.heap.size W W'):Ky b A W' m K:=by
 rcases h with h|⟨d,y,z,B,C,D,F,p,r,u,G,H,I,J,L,M,q,t,x,no,o,E,f,g,i,j,l,a⟩
 ·exact .inl h
 ·have c:∀ {e s n:Nat} {v:Value} {xs:List Value},W.ownsRow A e s v n xs->W'.ownsRow A e s v n xs:=fun h=>Ah h (fun k _ _ hl=>hb.block k hl)
  exact .inr ⟨d,y,z,B,C,D,F,p,r,u,G,H,I,J,L,M,q,t,x,no,o,E,f,g,i,j,l,c a.cod,a.own.below hb,c a.args,c a.outs,c a.frm,c a.slo⟩
theorem Qbz {c:List Ae} {arg:ByteArray} {outs:List ByteArray} {b:Bool} {A:Nat} {W0 W:World} {m:Value} (h:Fg c arg outs b A W0 m) (hw:X9 c) (hz:W0.heap.size<=W.heap.size) (hk:∀ k,A<=k->k < W0.heap.size->W.heap[k]? = W0.heap[k]?) :
  Calls Tryz.prog 15 #[m,.int .i64 1] W fun e w' => ∃ K,e = .returned (.int .i64 K)/\1<=K/\Ky b A w' m K/\Au (fun j=>A<=j/\j < W0.heap.size) W w':=by
 rcases h with⟨rfl,rfl⟩|⟨rfl,⟨r,o,s⟩,p,U,v,T,Y,V,R,S,X,Z,E,rfl,Q,d⟩
 ·exact(Nl W).mono fun e w' ⟨h1,h2⟩=>⟨1,h1,by omega,.inl ⟨rfl,rfl,rfl⟩,Au.of_below h2⟩
 ·obtain⟨C,J,rfl⟩:=Aq d.cod
  obtain⟨D,L,rfl⟩:=Aq d.args
  obtain⟨F,M,rfl⟩:=Aq d.outs
  obtain⟨G,N,rfl⟩:=Aq d.frm
  obtain⟨H,O,rfl⟩:=Aq d.fil
  obtain⟨I,P,rfl⟩:=Aq d.sai
  obtain⟨t,u,rfl⟩:=Aq d.slo
  obtain⟨x,y,rfl⟩:=Aq d.stk
  obtain⟨z,B,rfl⟩:=d.own.len
  have a:=X8 (o.sound s) hw
  rw[<- Q]at a
  have f:G4 E:=⟨by have:=a.1;rw[Gq]at this;exact this,fun e he=>by
   have:=a.2 e.f (List.mem_map.2 ⟨e,he,rfl⟩)
   exact⟨this.2.1,this.2.2.2.2.2.1⟩⟩
  have g:outs.length<=1000:=by unfold E9 at p;simp at p;omega
  have i:Gd c<=1000:=by obtain⟨-,-,-,q,-⟩:=Ik o s;omega
  refine(Ok A C D F G H I t x z J L M N O P u y B outs.length (Gd c) (Ft c) E arg outs W f rfl g i W0 hz hk d).mono ?_
  rintro e w' ⟨rfl,l,n⟩
  exact⟨_,rfl,by have:=(Jm E 1 f.2).1;omega,.inr ⟨rfl,C,D,F,G,H,I,t,x,z,J,L,M,N,O,P,u,y,B,_,_,E,rfl,f,g,i,rfl,l⟩,n⟩
theorem Ub {b:Bool} {A:Nat} {W:World} {m:Value} {K:Int} (h:Ky b A W m K) :
  Calls Tryz.prog 16 #[m,.int .i64 1] W fun e w'=>e = .returned (.int .i64 K)/\Below W.heap.size W w':=by
 rcases h with⟨-,rfl,rfl⟩|⟨-,p,q,r,s,t,u,i,k,n,v,x,y,z,B,C,j,l,o,no,g,E,rfl,a,c,d,rfl,f⟩
 ·exact Nk W
 ·exact Of A p q r s t u i k n v x y z B C j l o no g E W a c d f
theorem Yj (a:ByteArray) (xs:List ByteArray) (p:Option Addr) (c:Nat) (w:World) (hN:Cx w (.slice p xs.length c) xs) (hl:xs.length<=1048576) :
  Calls Tryz.prog 8 #[.agg #[.string a,.slice p xs.length c]] w fun e w' => ∃ q k,e = .returned (.agg #[.string a,.slice q xs.length k])/\w'.ownsRow w.heap.size 9 1 (.slice q xs.length k) xs.length (Be xs)/\Below w.heap.size w w':=by
 have f:Hid (∀ o1 o2 o3:Obj,Cx (((w.alloc o1).alloc o2).alloc o3) (.slice p xs.length c) xs):=fun o1 o2 o3=>hN.below ((((Below.refl w.heap.size w).alloc (Nat.le_refl _) o1).alloc (by simp) o2).alloc (by simp only[World.size_alloc];omega) o3)
 clear hN
 go_enter Tryz.func8,Tryz.ntmps8
 go_wp2_with (go_at_call 25;(refine(Lc xs _ _ (f.out _ _ _) hl).mono ?_;rintro e d ⟨o,rfl,own,b⟩;obtain⟨i,j,h⟩:=We own;subst h;simp only[World.size_alloc]at own b;have m:d.cell? ⟨w.heap.size+1,0,none⟩=some (.string ⟨#[]⟩):=(by rw[b.cell (p:=⟨w.heap.size+1,0,none⟩) (by simp only;omega)];simp[go_sem]);have n:d.cell? ⟨w.heap.size+1,1,none⟩=some (.slice none 0 0):=(by rw[b.cell (p:=⟨w.heap.size+1,1,none⟩) (by simp only;omega)];simp[go_sem]);have r:d.cell? ⟨w.heap.size+1+1,0,none⟩=some (.string a):=(by rw[b.cell (p:=⟨w.heap.size+1+1,0,none⟩) (by simp only;omega)];simp[go_sem]);have s:d.cell? ⟨w.heap.size+1+1,1,none⟩=some (.slice none 0 0):=(by rw[b.cell (p:=⟨w.heap.size+1+1,1,none⟩) (by simp only;omega)];simp[go_sem]);have t:d.frozen? ⟨w.heap.size+1,0,none⟩=false:=(by rw[b.frozen (p:=⟨w.heap.size+1,0,none⟩) (by simp only;omega)];simp[go_sem]);have u:d.frozen? ⟨w.heap.size+1,1,none⟩=false:=(by rw[b.frozen (p:=⟨w.heap.size+1,1,none⟩) (by simp only;omega)];simp[go_sem]);have x:d.frozen? ⟨w.heap.size+1+1,1,none⟩=false:=(by rw[b.frozen (p:=⟨w.heap.size+1+1,1,none⟩) (by simp only;omega)];simp[go_sem])))
 have l:=b.size
 simp only[World.size_alloc]at l
 have g:Below w.heap.size w d:=((((Below.refl w.heap.size w).alloc (Nat.le_refl _) _).alloc (by simp) _).alloc (by simp only[World.size_alloc];omega) _).trans (b.mono (by omega))
 refine bodyPost_ret (v:=.agg #[.string a,.slice i xs.length j]) (by simp[results,Tryz.results8,go_sem,m,n]) rfl ⟨_,_,rfl, ?_, ?_⟩
 ·exact Bc (ownsRow_setCell_below (ownsRow_setCell_below (ownsRow_setCell_below own (a:=⟨w.heap.size+1+1,1,none⟩) (by simp only;omega) _) (a:=⟨w.heap.size+1,0,none⟩) (by simp only;omega) _) (a:=⟨w.heap.size+1,1,none⟩) (by simp only;omega) _) (by omega)
 ·exact((g.setCell (p:=⟨w.heap.size+1+1,1,none⟩) (by simp only;omega) _).setCell (p:=⟨w.heap.size+1,0,none⟩) (by simp only;omega) _).setCell (p:=⟨w.heap.size+1,1,none⟩) (by simp only;omega) _
theorem Ud (A:Nat) (arg:ByteArray) (l:List ByteArray) (a:Option Addr) (cap:Nat) (k:Int) (h1:1<=k) (h2:k<=10000000000000) (hl:l.length<=1048576) (w:World) (ho:w.ownsRow A 9 1 (.slice a l.length cap) l.length (Be l)) :
  Calls Tryz.prog 14 #[.agg #[.string arg,.slice a l.length cap],.int .i64 k] w fun e w'=>e = .returned (.int .i64 (k+(l.length:Int)))/\Au (fun j=>(Value.slice a l.length cap).ownBlock=some j) w w':=by
 have b:Hid (∀ o:Obj,Calls Tryz.prog 36 #[.slice a l.length cap,.int .i64 k] (w.alloc o) fun e w'=>e = .returned (.int .i64 (k+(l.length:Int)))/\w'.ownsRow A 9 1 (.slice a l.length cap) l.length (Be (C2 k l.length))/\Au (fun j=>(Value.slice a l.length cap).ownBlock=some j) (w.alloc o) w'):=fun o=>Hq A l a cap k h1 h2 hl (w.alloc o) (Ah ho (fun k _ _ hl=>(Di w o).block k hl))
 clear ho
 go_enter Tryz.func14,Tryz.ntmps14
 go_wp2_with (go_at_call 36;refine(b.out _).mono ?_;rintro e d ⟨rfl,-,c⟩)
 go_ret
 exact⟨rfl,(Au.of_below (Di w _)).trans c⟩
theorem Nb {P:Program} {ops:Array Oper} {Q:Exit->Act->World->Prop} {md:Region.Mode} {S:World->Prop} (J:Act->(Nat->Bool)->Act->World->Prop) {fuel:Nat} {listed:Array Bool} {a0:Act} {w:World}
  (htop:(List.range ops.size).all (fun i=>((ops[i]?).map (·.after.all fun e=>decide (e.on < i))).getD true)=true)
  (hS:∀ L a w,J a0 L a w->S w)
  (hstep:∀ (L:Nat->Bool) (i:Nat) (o:Oper),ops[i]? = some o->L i=false->(∀ e ∈ o.after,Region.binds md e=true->L e.on=true)->∀ a w,J a0 L a w->∀ K':Act->World->Prop,Shut (∀ a' w',J a0 (fun j=>j == i || L j) a' w'->K' a' w')->if Region.wanted o (yielded ops a.tmps)=true then Oper.wp P o a w K' Q else K' (a.put o.dst undef) w)
  (hdone:∀ (L:Nat->Bool),(∀ i,i < ops.size->L i=true)->∀ a w,J a0 L a w->Q .normal a w)
  (hs:listed.size=ops.size) (hc:listed.toList.count false<=fuel) (h0:J a0 (fun j=>listed.getD j false) a0 w):wpAnyH P md ops Q S fuel listed a0 w :=
 Kz (J a0) htop hS hstep hdone fuel listed a0 w hs hc h0
theorem Qaz : ∀ (is:List Ax) (l:Int),0<=l->0<=Lb is l->∀ d ∈ is,(d.text.size:Int)<=l
 | [],_,_,_=>fun d a=>by simp at a
 | i::r,l,h,hp=>by
  obtain⟨g,c⟩:=La i.text.size l
  rw[Lb]at hp
  split at hp
  ·omega
  ·obtain⟨f,b⟩:=c (by omega)
   intro d a
   rcases List.mem_cons.1 a with rfl|a
   ·exact b
   ·have:=Qaz r (Hv i.text.size l) (by omega) hp d a;omega
theorem Qds (f:Ae) (l:Int) (_h:0<=l) (hp:0<=Jx f l):∀ d ∈ f.ins,(d.text.size:Int)<=l:=by
 unfold Jx at hp
 split at hp
 ·omega
 ·obtain⟨h,a⟩:=La f.params.length (l - (f.name.size:Int))
  split at hp
  ·omega
  ·obtain⟨c,g⟩:=a (by omega)
   unfold I6 at hp
   split at hp
   ·omega
   ·intro d b
    have:=Qaz f.ins _ (by omega) hp d b
    omega
theorem Qa0 : ∀ (c:List Ae) (l:Int),0<=l->0<=Kf c l->∀ f ∈ c,∀ d ∈ f.ins,(d.text.size:Int)<=l
 | [],_,_,_=>fun f hf=>by simp at hf
 | f::r,l,h,hp=>by
  obtain⟨g,i,j⟩:=Tx f l h
  rw[Kf]at hp
  split at hp
  ·omega
  ·intro x a d b
   rcases List.mem_cons.1 a with rfl|a
   ·exact Qds _ l h (by omega) d b
   ·have:=Qa0 r (Jx f l) (by omega) hp x a d b;omega
theorem Qdr (c:List Ae) (l:Int) (hp:0<=Ke c l):∀ f ∈ c,∀ d ∈ f.ins,(d.text.size:Int)<=l:=by
 unfold Ke at hp
 split at hp
 ·omega
 ·intro f b d a
  have:=Qa0 c _ (by omega) hp f b d a
  omega
theorem Fg.kt {c:List Ae} {arg:ByteArray} {outs:List ByteArray} {b:Bool} {A:Nat} {W W':World} {m:Value} (h:Fg c arg outs b A W m) (hk:Ny 34 W W'):Fg c arg outs b A W' m:=by
 rcases h with h|⟨k,l,n,i,v,g,r,j,d,f,q,s,E,o,p,a⟩
 ·exact .inl h
 ·exact .inr ⟨k,l,n,i,v,g,r,j,d,f,q,s,E,o,p,hk.row a.cod (by decide),hk.own a.own (by decide) (by decide) (by decide),hk.row a.args (by decide),hk.row a.outs (by decide),a.ne,hk.row a.frm (by decide),hk.row a.slo (by decide),hk.row a.stk (by decide),hk.row a.fil (by decide),hk.row a.sai (by decide)⟩
structure Ic (c:List Ae) (n no:Nat) (arg:ByteArray) (outs:List ByteArray) (b:Bool) (W0:World) (L:Nat->Bool) (U:World) (v25 v27 v28 v6:Value):Prop where
 lo:L 0=true/\L 2=true
 d6:L 6=true->L 4=true/\L 5=true
 bel:Below W0.heap.size W0 U
 f1:L 1=true->∃ p,v25 = .agg #[.slice p n n]/\(L 4=false->Ak U.heap.size U (.slice p n n) c)
 f3:L 3=true->∃ q k,v27 = .agg #[.string arg,.slice q no k]/\(L 4=false->Cx U (.slice q no k) outs)
 f4:L 4=true->Fg c arg outs b W0.heap.size U v28
 f5:L 5=true->L 6=false->∃ g,v6 = .pointer (some ⟨g,0,none⟩)/\W0.heap.size<=g/\U.heap[g]? = some (.cells Na 34)
 f6:L 6=true->∃ g arr,v6 = .pointer (some ⟨g,0,none⟩)/\W0.heap.size<=g/\v28 = .agg arr/\U.heap[g]? = some (.cells arr 34)
theorem Ic.keep {c:List Ae} {n no:Nat} {arg:ByteArray} {outs:List ByteArray} {b:Bool} {W0:World} {L:Nat->Bool} {U U':World} {v25 v27 v28 v6:Value} (h:Ic c n no arg outs b W0 L U v25 v27 v28 v6) (hb:Below U.heap.size U U'):Ic c n no arg outs b W0 L U' v25 v27 v28 v6 :=
 ⟨h.lo,h.d6,h.bel.trans (hb.mono h.bel.size),fun q=>let ⟨p,a,r⟩:=h.f1 q;⟨p,a,fun q'=>Ak.mono ((r q').below hb) hb.size⟩,fun q=>let ⟨p,k,a,r⟩:=h.f3 q;⟨p,k,a,fun q'=>(r q').below hb⟩,fun q=>(h.f4 q).keep (fun k _ hl=>hb.block k hl),fun q q'=>let ⟨g,a,e,r⟩:=h.f5 q q';⟨g,a,e,(hb.block g (Array.getElem?_eq_some_iff.1 r).1).trans r⟩,fun q=>let ⟨g,arr,a,e,d,r⟩:=h.f6 q;⟨g,arr,a,e,d,(hb.block g (Array.getElem?_eq_some_iff.1 r).1).trans r⟩⟩
theorem Ic.do1 {c:List Ae} {n no:Nat} {arg:ByteArray} {outs:List ByteArray} {b:Bool} {W0:World} {L:Nat->Bool} {U:World} {v25 v27 v28 v6:Value} (h:Ic c n no arg outs b W0 L U v25 v27 v28 v6) {p:Option Addr} (hp:Ak U.heap.size U (.slice p n n) c):Ic c n no arg outs b W0 (fun j=>j == 1 || L j) U (.agg #[.slice p n n]) v27 v28 v6 :=
 ⟨h.lo,h.d6,h.bel,fun _=>⟨p,rfl,fun _=>hp⟩,h.f3,h.f4,h.f5,h.f6⟩
theorem Ic.do3 {c:List Ae} {n no:Nat} {arg:ByteArray} {outs:List ByteArray} {b:Bool} {W0:World} {L:Nat->Bool} {U:World} {v25 v27 v28 v6:Value} (h:Ic c n no arg outs b W0 L U v25 v27 v28 v6) {q:Option Addr} {k:Nat} (hp:Cx U (.slice q no k) outs):Ic c n no arg outs b W0 (fun j=>j == 3 || L j) U v25 (.agg #[.string arg,.slice q no k]) v28 v6 :=
 ⟨h.lo,h.d6,h.bel,h.f1,fun _=>⟨q,k,rfl,fun _=>hp⟩,h.f4,h.f5,h.f6⟩
theorem Ic.do4 {c:List Ae} {n no:Nat} {arg:ByteArray} {outs:List ByteArray} {b:Bool} {W0:World} {L:Nat->Bool} {U:World} {v25 v27 v28 v6:Value} (h:Ic c n no arg outs b W0 L U v25 v27 v28 v6) (h4:L 4=false) {m:Value} (hp:Fg c arg outs b W0.heap.size U m):Ic c n no arg outs b W0 (fun j=>j == 4 || L j) U v25 v27 m v6 :=
 ⟨h.lo,fun q=>Ey h4 (h.d6 q).1,h.bel,fun q=>let ⟨p,a,_⟩:=h.f1 q;⟨p,a,(fun q'=>nomatch q')⟩,fun q=>let ⟨p,k,a,_⟩:=h.f3 q;⟨p,k,a,(fun q'=>nomatch q')⟩,fun _=>hp,h.f5,fun q=>Ey h4 (h.d6 q).1⟩
theorem Ic.do5 {c:List Ae} {n no:Nat} {arg:ByteArray} {outs:List ByteArray} {b:Bool} {W0:World} {L:Nat->Bool} {U:World} {v25 v27 v28 v6:Value} (h:Ic c n no arg outs b W0 L U v25 v27 v28 v6) (h5:L 5=false):Ic c n no arg outs b W0 (fun j=>j == 5 || L j) (U.alloc (.cells Na 34)) v25 v27 v28 (.pointer (some ⟨U.heap.size,0,none⟩)):=by
 have a:=h.keep (Di U (.cells Na 34))
 exact⟨h.lo,fun q=>⟨(h.d6 q).1,rfl⟩,a.bel,a.f1,a.f3,a.f4,fun _ _=>⟨_,rfl,h.bel.size,Ag U _⟩,fun q=>Ey h5 (h.d6 q).2⟩
theorem Ic.do6 {c:List Ae} {n no:Nat} {arg:ByteArray} {outs:List ByteArray} {b:Bool} {W0:World} {L:Nat->Bool} {U U':World} {v25 v27 v28 v6:Value} (h:Ic c n no arg outs b W0 L U v25 v27 v28 v6) (h4:L 4=true) (h5:L 5=true) (h6:L 6=false) {g:Nat} {arr:Array Value} (e6:v6 = .pointer (some ⟨g,0,none⟩)) (em:v28 = .agg arr) (hb:Below W0.heap.size W0 U') (hk:∀ k,k≠g->U'.heap[k]? = U.heap[k]?) (hm:U'.heap[g]? = some (.cells arr 34)):Ic c n no arg outs b W0 (fun j=>j == 6 || L j) U' v25 v27 v28 v6:=by
 obtain⟨i,d,l,m⟩:=h.f5 h5 h6
 have:i=g:=by rw[e6]at d;injection d with d;injection d with d;injection d with d _ _;exact d.symm
 subst this
 have f:Ny 34 U U':=fun k _ hc=>hk k (fun e=>by subst e;exact hc _ m)
 refine⟨h.lo,fun _=>⟨h4,h5⟩,hb,fun q => ?_,fun q => ?_,fun q=>(h.f4 q).kt f,fun _ q=>by simp at q,fun _=>⟨i,arr,e6,l,em,hm⟩⟩
 ·obtain⟨p,a,r⟩:=h.f1 q
  exact⟨p,a,fun q'=>Ey q' h4⟩
 ·obtain⟨p,k,a,r⟩:=h.f3 q
  exact⟨p,k,a,fun q'=>Ey q' h4⟩
end Go.Proofs.YtfjkahdghhbpnaaGreatDoor
