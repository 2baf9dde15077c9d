import Derived.Test.YtbkhedpabfanoaaGreatDoorKScanA
import Derived.Test.YtbkhedpabfanoaaGreatDoorKCdA
import Derived.Maps.AppendAt
import Derived.Lib.Builder
import Derived.Lib.AppendStr
import Derived.Lib.UnsafeStr
import Derived.Deep.RegionHeld3
namespace Go.Proofs.YtbkhedpabfanoaaGreatDoor
open Go.RowKit

theorem Wc.b1 (w:World) (o:Obj):Below w.heap.size w (w.alloc o):=(Below.refl _ w).alloc (Nat.le_refl _) o
theorem Wc.rowLen {w:World} {B e size n:Nat} {v:Value} {xs:List Value} (h:w.ownsRow B e size v n xs):∃ a cap,v = .slice a n cap:=by
  rcases h.2 with ⟨rfl,h0⟩ | ⟨g,cap,cur,rfl,_⟩
  · exact ⟨none,0,by rw [h0]⟩
  · exact ⟨_,_,rfl⟩
theorem Wc.rowBlk {w:World} {B e size n:Nat} {v:Value} {xs:List Value} (h:w.ownsRow B e size v n xs) {g:Nat} (hg:g < B):v.ownBlock≠some g:=by
  rcases h.2 with ⟨rfl,h0⟩ | ⟨g',cap,cur,rfl,hb,_⟩
  · simp [Value.ownBlock]
  · simp only [Value.ownBlock,ne_eq,Option.some.injEq];omega
theorem Wc.bGrown {B:Nat} {a w w':World} {row:Option Nat} (h:Below B a w) (hg:w.grownBy w' row) (hB:B≤w.heap.size) (hr:∀ k,k < B→row≠some k):Below B a w' :=
  ⟨hg.os.trans h.os,hg.tape.trans h.tape,hg.output.trans h.output,Nat.le_trans h.size hg.size,fun k hk=>(hg.block k (Nat.lt_of_lt_of_le hk hB) (fun e=>hr k hk e.symm)).trans (h.block k hk)⟩
def Wc.num (n:Nat):List UInt8:=if h:n < 128 then [UInt8.ofNat n] else UInt8.ofNat (n % 128+128)::Wc.num (n / 128)
  termination_by n
  decreasing_by omega
theorem Wc.num_small {n:Nat} (h:n < 128):Wc.num n=[UInt8.ofNat n]:=by rw [Wc.num,dif_pos h]
theorem Wc.num_big {n:Nat} (h:¬ n < 128):Wc.num n=UInt8.ofNat (n % 128+128)::Wc.num (n / 128):=by rw [Wc.num,dif_neg h]
theorem Wc.num_len : ∀ (k:Nat) (n:Nat),n < 128 ^ k→(Wc.num n).length≤k+1
  | 0,n,h=>by rw [Wc.num_small (by simp at h;omega)];simp
  | k+1,n,h=>by
    by_cases h1:n < 128
    · rw [Wc.num_small h1];simp
    · rw [Wc.num_big h1,List.length_cons]
      have:=Wc.num_len k (n / 128) (by rw [Nat.div_lt_iff_lt_mul (by omega)];rw [Nat.pow_succ] at h;exact h)
      omega
theorem Wc.num_ten {n:Nat} (h:n < 18446744073709551616):(Wc.num n).length≤11:=Wc.num_len 10 n (by omega)
def Wc.u (x:Int):Nat:=(x % 18446744073709551616).toNat
theorem Wc.u_lt (x:Int):Wc.u x < 18446744073709551616:=by unfold Wc.u;omega
theorem Wc.u_nat (n:Nat) (h:n < 18446744073709551616):Wc.u (n:Int)=n:=by unfold Wc.u;omega
def Wc.txt (s:ByteArray):List UInt8:=Wc.num s.size++s.data.toList
def Wc.opt (i:Cd.Ins):List UInt8:=if Cd.hasA i.op=true then Wc.num (Wc.u i.a) else []
def Wc.lit (i:Cd.Ins):List UInt8:=if i.op=1 then (if i.a=2 then Wc.txt i.text else Wc.num (Wc.u i.n)) else []
def Wc.ins (i:Cd.Ins):List UInt8:=Wc.num (Wc.u i.op)++Wc.opt i++Wc.lit i
def Wc.pars (l:List Int):List UInt8:=l.flatMap fun t=>Wc.num (Wc.u t)
def Wc.inss (l:List Cd.Ins):List UInt8:=l.flatMap Wc.ins
def Wc.fnH (f:Cd.Fn):List UInt8:=Wc.txt f.name++Wc.num f.params.length++Wc.pars f.params++Wc.num (Wc.u f.result)++Wc.num (Wc.u f.slots)++Wc.num f.ins.length
def Wc.fn (f:Cd.Fn):List UInt8:=Wc.fnH f++Wc.inss f.ins
def Wc.fns (c:List Cd.Fn):List UInt8:=c.flatMap Wc.fn
def Wc.form (c:List Cd.Fn):List UInt8:=[109,105,108,108,49]++Wc.num c.length++Wc.fns c
theorem Wc.byteCells_app (a b:List UInt8):Lib.byteCells (a++b)=Lib.byteCells a++Lib.byteCells b:=by simp [Lib.byteCells]
theorem Wc.strCells_eq (x:ByteArray):Lib.strCells x=Lib.byteCells x.data.toList:=by
  first | rfl | simp [Lib.strCells,Lib.byteCells]
def Wc.At (B:Nat) (w:World) (v:Value) (l:List UInt8):Prop:=w.ownsRow B 5 1 v l.length (Lib.byteCells l)
theorem Wc.At.form {B:Nat} {w:World} {v:Value} {l:List UInt8} (h:Wc.At B w v l):∃ a cap,v = .slice a l.length cap:=Wc.rowLen h
structure Wc.Kp (B:Nat) (w w':World):Prop where
  bel:Below B w w'
  oth:∀ (k:Nat) (cur:Array Value) (e:TypeId) (fr:Nat × Nat),w.heap[k]? = some (.cells cur e fr)→e≠5→w'.heap[k]? = some (.cells cur e fr)
theorem Wc.Kp.refl (B:Nat) (w:World):Wc.Kp B w w:=⟨Below.refl _ _,fun _ _ _ _ h _=>h⟩
theorem Wc.Kp.trans {B:Nat} {a b c:World} (h:Wc.Kp B a b) (k:Wc.Kp B b c):Wc.Kp B a c:=⟨h.bel.trans k.bel,fun i cur e fr hi he=>k.oth i cur e fr (h.oth i cur e fr hi he) he⟩
theorem Wc.Kp.of_below {B:Nat} {a b:World} (h:Below a.heap.size a b) (hB:B≤a.heap.size):Wc.Kp B a b:=⟨h.mono hB,fun k _ _ _ hk _=>(h.block k (Array.getElem?_eq_some_iff.1 hk).1).trans hk⟩
theorem Wc.Kp.alloc (B:Nat) (w:World) (o:Obj) (hB:B≤w.heap.size):Wc.Kp B w (w.alloc o):=Wc.Kp.of_below (Wc.b1 w o) hB
theorem Wc.Kp.grown {B:Nat} {w w':World} {v:Value} {n:Nat} {xs:List Value} (h:w.ownsRow B 5 1 v n xs) (hg:w.grownBy w' v.ownBlock) (hB:B≤w.heap.size):Wc.Kp B w w':=by
  refine ⟨Wc.bGrown (Below.refl _ _) hg hB (fun g hg=>Wc.rowBlk h hg),fun k cur e fr hk he => ?_⟩
  rw [hg.block k (Array.getElem?_eq_some_iff.1 hk).1 (fun e2 => ?_)]
  · exact hk
  · rcases h.2 with ⟨rfl,_⟩ | ⟨g,cap,c2,rfl,_,hg2,_⟩
    · simp [Value.ownBlock] at e2
    · have:k=g:=by simpa [Value.ownBlock] using e2
      subst this
      rw [hk] at hg2
      injection hg2 with hg2;injection hg2 with _ hg2
      exact he hg2
theorem Wc.At.below {B:Nat} {w w':World} {v:Value} {l:List UInt8} (h:Wc.At B w v l) (hb:Below w.heap.size w w'):Wc.At B w' v l:=by
  obtain ⟨h1,h2⟩:=h
  refine ⟨h1, ?_⟩
  rcases h2 with h2 | ⟨g,cap,cur,rfl,hB,hg,r⟩
  · exact .inl h2
  · exact .inr ⟨g,cap,cur,rfl,hB,(hb.block g (Array.getElem?_eq_some_iff.1 hg).1).trans hg,r⟩
theorem Wc.cell_new (w:World) (x:Value) (t:TypeId):∀ j u,[x][j]? = some u→(w.alloc (.cells #[x] t)).cell? ((⟨w.heap.size,0,none⟩:Addr).add j)=some u:=by
  intro j u hj
  have h:=(MapKept.heap_alloc w (.cells #[x] t)).1
  have hj0:j=0:=by have:=(List.getElem?_eq_some_iff.1 hj).1;simp at this;omega
  subst hj0
  show (w.alloc (.cells #[x] t)).cell? ⟨w.heap.size,0,none⟩=some u
  rw [Lib.cell_of_heap h];simpa using hj
theorem Wc.byte (n:Nat) (h:n < 256):(Value.int .u8 (n:Int)) = .int .u8 ((UInt8.ofNat n).toNat:Int):=by
  rw [UInt8.toNat_ofNat',Nat.mod_eq_of_lt h]
theorem Wc.At.snoc {B:Nat} {w:World} {v:Value} {l:List UInt8} {n:Nat} (hn:n < 256) (h:w.ownsRow B 5 1 v (l.length+1) (Lib.byteCells l++[.int .u8 (n:Int)])):Wc.At B w v (l++[UInt8.ofNat n]):=by
  rw [Wc.byte n hn] at h
  unfold Wc.At
  rw [Wc.byteCells_app,List.length_append]
  exact h
set_option maxRecDepth 100000 in
set_option maxHeartbeats 1000000 in
theorem Wc.number_any (B:Nat) (v:Value) (acc:List UInt8) (n:Nat) (hn:n < 18446744073709551616) (w:World) (hB:B≤w.heap.size) (ho:Wc.At B w v acc) (ha:acc.length≤100000000000000) :
    Calls Tryz.prog 35 #[v,.int .u64 (n:Int)] w fun e w' => ∃ v',e = .returned v'∧Wc.At B w' v' (acc++Wc.num n)∧Wc.Kp B w w':=by
  obtain ⟨i0,hi,hz0,hz1,hz2⟩:=info_parts Tryz.infoByte
  obtain ⟨a0,c0,rfl⟩:=ho.form
  have HO:Hid (Wc.At B w (.slice a0 acc.length c0) acc):=ho
  clear ho
  have hnl:=Wc.num_ten hn
  go_enter Tryz.func35,Tryz.ntmps35
  go_wp2_with fail
  go_loopw [0,1] (fun ov t wr => ∃ (m:Nat) (l:List UInt8) (oa:Option Addr) (oc:Nat),m≤n∧t = .int .u64 (m:Int)∧ov = .slice oa l.length oc∧Wc.At B wr ov l∧l++Wc.num m=acc++Wc.num n∧Wc.Kp B w wr) (fun _ t _=>(intOf t).toNat)
  case atStart=>exact ⟨n,acc,a0,c0,Nat.le_refl _,rfl,rfl,HO.out,rfl,Wc.Kp.refl _ _⟩
  case round =>
    obtain ⟨m,l,oa,oc,hm,rfl,rfl,ho,hl,hk⟩:=hrel
    have HO:Hid (Wc.At B wr (.slice oa l.length oc) l):=ho
    have HK:Hid (Wc.Kp B w wr):=hk
    have hBr:B≤wr.heap.size:=Nat.le_trans hB hk.bel.size
    have hll:l.length≤acc.length+11:=by
      have:=congrArg List.length hl
      simp only [List.length_append] at this
      omega
    clear ho hk
    by_cases hbig:m < 128
    · have hbigI:¬ (127:Int) < (m:Int):=by omega
      have HL:Hid (acc++Wc.num n=l++[UInt8.ofNat m]):=by rw [Hid,← hl,Wc.num_small hbig]
      clear hl
      go_wp2_with (first | (at_builtin;refine wpList_append_own _ rfl _ _ 57 rfl B 5 i0 (.int .u8 0) 1 1 Tryz.underlying57 hi hz0 hz1 hz2 rfl (by decide) _ _ _ rfl (HO.out.alloc _) ⟨wr.heap.size,0,none⟩ 1 1 [.int .u8 (m:Int)] rfl rfl (Wc.cell_new _ _ _) (fun x hx=>by simp at hx;subst hx;rfl) (by unfold maxLen;omega) (by omega) (by simp;omega) ?_;intro v' w3 hown' hg3 _))
      have HO3:Hid (Wc.At B w3 v' (acc++Wc.num n)):=by rw [Hid,HL.out];exact Wc.At.snoc (by omega) hown'
      have HK3:Hid (Wc.Kp B w w3):=HK.out.trans ((Wc.Kp.alloc B wr _ hBr).trans (Wc.Kp.grown (HO.out.alloc _) hg3 (by simp;omega)))
      clear hown' hg3
      go_wp2_with fail
      go_ret
      exact ⟨_,rfl,HO3.out,HK3.out⟩
    · have hbigI:(127:Int) < (m:Int):=by omega
      have HL:Hid ((l++[UInt8.ofNat (m % 128+128)])++Wc.num (m / 128)=acc++Wc.num n):=by rw [Hid,← hl,Wc.num_big hbig];simp
      clear hl
      have E1:Hid ((m:Int) % 128+128=((m % 128+128:Nat):Int)):=by show (m:Int) % 128+128=((m % 128+128:Nat):Int);omega
      have E2:Hid ((m:Int) / 128=((m / 128:Nat):Int)):=by show (m:Int) / 128=((m / 128:Nat):Int);omega
      go_wp2_with (first | (at_builtin;refine wpList_append_own _ rfl _ _ 57 rfl B 5 i0 (.int .u8 0) 1 1 Tryz.underlying57 hi hz0 hz1 hz2 rfl (by decide) _ _ _ rfl (HO.out.alloc _) ⟨wr.heap.size,0,none⟩ 1 1 [.int .u8 ((m:Int) % 128+128)] rfl rfl (Wc.cell_new _ _ _) (fun x hx=>by simp at hx;subst hx;rfl) (by unfold maxLen;omega) (by omega) (by simp;omega) ?_;intro v' w3 hown' hg3 _))
      have HO3:Hid (Wc.At B w3 v' (l++[UInt8.ofNat (m % 128+128)])):=by rw [E1.out] at hown';exact Wc.At.snoc (by omega) hown'
      have HK3:Hid (Wc.Kp B w w3):=HK.out.trans ((Wc.Kp.alloc B wr _ hBr).trans (Wc.Kp.grown (HO.out.alloc _) hg3 (by simp;omega)))
      clear hown' hg3
      obtain ⟨a3,c3,hv3⟩:=HO3.out.form
      subst hv3
      go_roundw
      case rel=>exact ⟨m / 128,_,a3,c3,by omega,by rw [E2.out],rfl,HO3.out,HL.out,HK3.out⟩
      case measure=>simp [intOf];omega
set_option maxRecDepth 100000 in
set_option maxHeartbeats 1000000 in
theorem Wc.text_any (B:Nat) (v:Value) (acc:List UInt8) (s:ByteArray) (hs:s.size≤1048576) (w:World) (hB:B≤w.heap.size) (ho:Wc.At B w v acc) (ha:acc.length≤90000000000000) :
    Calls Tryz.prog 36 #[v,.string s] w fun e w' => ∃ v',e = .returned v'∧Wc.At B w' v' (acc++Wc.txt s)∧Wc.Kp B w w':=by
  obtain ⟨i0,hi,hz0,hz1,hz2⟩:=info_parts Tryz.infoByte
  have HN:Hid (Calls Tryz.prog 35 #[v,.int .u64 (s.size:Int)] w fun e w' => ∃ v',e = .returned v'∧Wc.At B w' v' (acc++Wc.num s.size)∧Wc.Kp B w w'):=Wc.number_any B v acc s.size (by omega) w hB ho (by omega)
  have hnl:(Wc.num s.size).length≤11:=Wc.num_ten (by omega)
  go_enter Tryz.func36,Tryz.ntmps36
  go_wp2_with (first
    | (go_at_call 35;refine HN.out.mono ?_;rintro e w1 ⟨v1,rfl,ho1,hk1⟩;have HO1:Hid (Wc.At B w1 v1 (acc++Wc.num s.size)):=ho1;have HK1:Hid (Wc.Kp B w w1):=hk1;clear ho1 hk1)
    | (at_builtin;refine Lib.wpList_append_own_string _ rfl _ _ 57 9 rfl B 5 i0 Tryz.underlying57 Tryz.underlying9 hi hz0 hz1 hz2 _ _ _ rfl HO1.out s rfl (by unfold maxLen;simp only [List.length_append];omega) (by simp only [List.length_append];omega) (Nat.le_trans hB HK1.out.bel.size) ?_;intro v' w3 hown' hg3 _))
  have HO3:Hid (Wc.At B w3 v' (acc++Wc.txt s)):=by
    rw [Hid,Wc.At,Wc.txt,← List.append_assoc,Wc.byteCells_app _ s.data.toList,← Wc.strCells_eq,List.length_append]
    simpa using hown'
  have HK3:Hid (Wc.Kp B w w3):=HK1.out.trans (Wc.Kp.grown HO1.out hg3 (Nat.le_trans hB HK1.out.bel.size))
  clear hown' hg3
  go_wp2_with fail
  go_ret
  exact ⟨_,rfl,HO3.out,HK3.out⟩
end Go.Proofs.YtbkhedpabfanoaaGreatDoor
namespace Go.Proofs.YtbkhedpabfanoaaGreatDoor
open Go.RowKit

theorem Wc.flat_len {α:Type} (f:α→List UInt8) (b:Nat):∀ l:List α,(∀ x ∈ l,(f x).length≤b)→(l.flatMap f).length≤l.length * b
  | [],_=>by simp
  | x::l,h=>by
    rw [List.flatMap_cons,List.length_append,List.length_cons,Nat.add_mul,Nat.one_mul]
    have h1:=h x (by simp)
    have h2:=Wc.flat_len f b l (fun y hy=>h y (by simp [hy]))
    omega
theorem Wc.flat_take {α:Type} (f:α→List UInt8) (l:List α) (i:Nat) (hi:i < l.length):(l.take (i+1)).flatMap f=(l.take i).flatMap f++f l[i]:=by
  rw [List.take_add_one,List.getElem?_eq_getElem hi,List.flatMap_append];simp
theorem Wc.num_u (x:Int):(Wc.num (Wc.u x)).length≤11:=Wc.num_ten (Wc.u_lt x)
theorem Wc.wrap_u (x:Int):IntKind.u64.wrap x=((Wc.u x:Nat):Int):=by
  unfold Wc.u
  have h:IntKind.u64.wrap x=x % 18446744073709551616:=by simp [IntKind.wrap,IntKind.signed,IntKind.bits]
  rw [h];omega
theorem Wc.wrap_nat (n:Nat) (h:n < 18446744073709551616):IntKind.u64.wrap (n:Int)=(n:Int):=by rw [Wc.wrap_u,Wc.u_nat n h]
structure Wc.Fit (c:List Cd.Fn):Prop where
  len:c.length≤60
  name:∀ f ∈ c,f.name.size≤1048576
  params:∀ f ∈ c,f.params.length≤8
  ins:∀ f ∈ c,f.ins.length≤50000
  text:∀ f ∈ c,∀ i ∈ f.ins,i.op=1→i.a=2→i.text.size≤1048576
theorem Wc.txt_len (s:ByteArray) (h:s.size≤1048576):(Wc.txt s).length≤1048587:=by
  unfold Wc.txt
  rw [List.length_append]
  have:=Wc.num_ten (n:=s.size) (by omega)
  have e:s.data.toList.length=s.size:=by rw [Array.length_toList];rfl
  omega
theorem Wc.ins_len (i:Cd.Ins) (h:i.op=1→i.a=2→i.text.size≤1048576):(Wc.ins i).length≤1100000:=by
  unfold Wc.ins Wc.opt Wc.lit
  have h1:=Wc.num_u i.op
  have h2:=Wc.num_u i.a
  have h3:=Wc.num_u i.n
  rw [List.length_append,List.length_append]
  have h4:(if Cd.hasA i.op=true then Wc.num (Wc.u i.a) else []).length≤11:=by
    split
    · exact h2
    · simp
  have h5:(if i.op=1 then (if i.a=2 then Wc.txt i.text else Wc.num (Wc.u i.n)) else []).length≤1048587:=by
    split
    · rename_i e1
      split
      · rename_i e2;exact Wc.txt_len _ (h e1 e2)
      · omega
    · simp
  omega
theorem Wc.pars_len (l:List Int) (h:l.length≤8):(Wc.pars l).length≤88:=by
  have:=Wc.flat_len (fun t=>Wc.num (Wc.u t)) 11 l (fun x _=>Wc.num_u x)
  unfold Wc.pars;omega
theorem Wc.inss_len (l:List Cd.Ins) (h:l.length≤50000) (ht:∀ i ∈ l,i.op=1→i.a=2→i.text.size≤1048576):(Wc.inss l).length≤55000000000:=by
  have:=Wc.flat_len Wc.ins 1100000 l (fun x hx=>Wc.ins_len x (ht x hx))
  unfold Wc.inss;omega
theorem Wc.fnH_len (f:Cd.Fn) (h1:f.name.size≤1048576) (h2:f.params.length≤8) (h3:f.ins.length≤50000):(Wc.fnH f).length≤1100000:=by
  unfold Wc.fnH
  simp only [List.length_append]
  have a1:=Wc.txt_len f.name h1
  have a2:=Wc.num_ten (n:=f.params.length) (by omega)
  have a3:=Wc.pars_len f.params h2
  have a4:=Wc.num_u f.result
  have a5:=Wc.num_u f.slots
  have a6:=Wc.num_ten (n:=f.ins.length) (by omega)
  omega
theorem Wc.fn_len (f:Cd.Fn) (h1:f.name.size≤1048576) (h2:f.params.length≤8) (h3:f.ins.length≤50000) (ht:∀ i ∈ f.ins,i.op=1→i.a=2→i.text.size≤1048576):(Wc.fn f).length≤56000000000:=by
  unfold Wc.fn
  rw [List.length_append]
  have:=Wc.fnH_len f h1 h2 h3
  have:=Wc.inss_len f.ins h3 ht
  omega
theorem Wc.fns_len {c:List Cd.Fn} (h:Wc.Fit c) (k:Nat):(Wc.fns (c.take k)).length≤3400000000000:=by
  have:=Wc.flat_len Wc.fn 56000000000 (c.take k) (fun f hf=>by
    have hm:=List.mem_of_mem_take hf
    exact Wc.fn_len f (h.name f hm) (h.params f hm) (h.ins f hm) (h.text f hm))
  have h2:(c.take k).length≤60:=by rw [List.length_take];have:=h.len;omega
  unfold Wc.fns
  have:(c.take k).length * 56000000000≤60 * 56000000000:=Nat.mul_le_mul_right _ h2
  omega
set_option maxRecDepth 100000 in
set_option maxHeartbeats 4000000 in
theorem Wc.form_any (c:List Cd.Fn) (hF:Wc.Fit c) (ca:Option Addr) (cc:Nat) (w:World) (hC:Cd.CodeAt w.heap.size w (.slice ca c.length cc) c) :
    Calls Tryz.prog 21 #[.agg #[.slice ca c.length cc]] w fun e w' => ∃ v,e = .returned v∧Wc.At w.heap.size w' v (Wc.form c)∧Below w.heap.size w w':=by
  obtain ⟨i0,hi,hz0,hz1,hz2⟩:=info_parts Tryz.infoByte
  have HC:Hid (Cd.CodeAt w.heap.size w (.slice ca c.length cc) c):=hC
  have HFT:Hid (Wc.Fit c):=hF
  have hlen:=hF.len
  clear hC hF
  obtain ⟨Y1,hY1⟩:∃ Y,w.alloc (.cells #[.slice ca c.length cc] 24)=Y:=⟨_,rfl⟩
  have hb1:Below w.heap.size w Y1:=by rw [← hY1];exact Wc.b1 w _
  have HP1:Hid (Y1.heap[w.heap.size]? = some (.cells #[.slice ca c.length cc] 24)):=by rw [Hid,← hY1];exact (MapKept.heap_alloc w _).1
  have c0:Y1.cell? ⟨w.heap.size,0,none⟩=some (.slice ca c.length cc):=by rw [Lib.cell_of_heap HP1.out];rfl
  have HN:Hid (∀ (v:Value) (acc:List UInt8) (n:Nat) (U:World),n < 18446744073709551616→w.heap.size≤U.heap.size→Wc.At w.heap.size U v acc→acc.length≤80000000000000→Calls Tryz.prog 35 #[v,.int .u64 (n:Int)] U fun e w' => ∃ v',e = .returned v'∧Wc.At w.heap.size w' v' (acc++Wc.num n)∧Wc.Kp w.heap.size U w'):=fun v acc n U h1 h2 h3 h4=>Wc.number_any _ v acc n h1 U h2 h3 (by omega)
  have HOWN0:Hid (∀ W:World,w.heap.size≤W.heap.size→(W.alloc (.cells #[] 5)).ownsRow w.heap.size 5 1 (.slice (some ⟨W.heap.size,0,none⟩) 0 0) 0 (Lib.byteCells [])):=fun W h=>⟨rfl,.inr ⟨W.heap.size,0,#[],rfl,h,(MapKept.heap_alloc W _).1,by omega,by unfold maxLen;omega,rfl,rfl⟩⟩
  have HHD:Hid (∀ (U:World) (v:Value),U.ownsRow w.heap.size 5 1 v (0+5) (Lib.byteCells []++Lib.strCells ⟨#[109,105,108,108,49]⟩)→Wc.At w.heap.size U v [109,105,108,108,49]):=fun U v h=>h
  have hY1z:=hb1.size
  have HNW:Hid (∀ (v:Value) (acc:List UInt8) (x:Int) (U:World),w.heap.size≤U.heap.size→Wc.At w.heap.size U v acc→acc.length≤80000000000000→Calls Tryz.prog 35 #[v,.int .u64 (IntKind.u64.wrap x)] U fun e w' => ∃ v',e = .returned v'∧Wc.At w.heap.size w' v' (acc++Wc.num (Wc.u x))∧Wc.Kp w.heap.size U w'):=fun v acc x U h2 h3 h4=>by rw [Wc.wrap_u];exact HN.out v acc _ U (Wc.u_lt x) h2 h3 h4
  have HTX:Hid (∀ (v:Value) (acc:List UInt8) (s:ByteArray) (U:World),s.size≤1048576→w.heap.size≤U.heap.size→Wc.At w.heap.size U v acc→acc.length≤80000000000000→Calls Tryz.prog 36 #[v,.string s] U fun e w' => ∃ v',e = .returned v'∧Wc.At w.heap.size w' v' (acc++Wc.txt s)∧Wc.Kp w.heap.size U w'):=fun v acc s U h1 h2 h3 h4=>Wc.text_any _ v acc s h1 U h2 h3 (by omega)
  go_enter Tryz.func21,Tryz.ntmps21
  go_wp2_with (first
    | (go_at_call 35;refine (HN.out v0 [109,105,108,108,49] c.length U0 (by omega) (Nat.le_trans hY1z HK0.out.bel.size) HO0.out (by simp)).mono ?_;rintro e w1 ⟨v1,rfl,ho1,hk1⟩;have HO1:Hid (Wc.At w.heap.size w1 v1 ([109,105,108,108,49]++Wc.num c.length)):=ho1;have HK1:Hid (Wc.Kp w.heap.size Y1 w1):=HK0.out.trans hk1;clear ho1 hk1)
    | (at_builtin;refine Lib.wpList_append_own_string _ rfl _ _ 57 9 rfl w.heap.size 5 i0 Tryz.underlying57 Tryz.underlying9 hi hz0 hz1 hz2 _ _ _ rfl (HOWN0.out Y1 hY1z) ⟨#[109,105,108,108,49]⟩ rfl (by unfold maxLen;decide) (by decide) (by simp;omega) ?_;intro v0 U0 hown0 hg0 _;have HO0:Hid (Wc.At w.heap.size U0 v0 [109,105,108,108,49]):=HHD.out U0 v0 hown0;have HK0:Hid (Wc.Kp w.heap.size Y1 U0):=(Wc.Kp.alloc _ Y1 _ hY1z).trans (Wc.Kp.grown (HOWN0.out Y1 hY1z) hg0 (by simp;omega));have cu0:U0.cell? ⟨w.heap.size,0,none⟩=some (.slice ca c.length cc):=(by rw [Lib.cell_of_heap (HK0.out.oth _ _ _ _ HP1.out (by decide))];rfl);clear hown0 hg0))
  have HPW:Hid (w1.heap[w.heap.size]? = some (.cells #[.slice ca c.length cc] 24)):=HK1.out.oth _ _ _ _ HP1.out (by decide)
  have HKW:Hid (Wc.Kp w.heap.size w w1):=(Wc.Kp.of_below hb1 (Nat.le_refl _)).trans HK1.out
  have HLN:Hid (([109,105,108,108,49]++Wc.num c.length:List UInt8).length≤20):=by
    have:=Wc.num_ten (n:=c.length) (by omega)
    show ([109,105,108,108,49]++Wc.num c.length:List UInt8).length≤20
    simp only [List.length_append,List.length_cons,List.length_nil];omega
  obtain ⟨hd,HHE⟩:∃ hd,Hid (([109,105,108,108,49]++Wc.num c.length:List UInt8)=hd):=⟨_,(rfl:([109,105,108,108,49]++Wc.num c.length:List UInt8)=_)⟩
  rw [HHE.out] at HO1 HLN
  have HFORM:Hid (Wc.form c=hd++Wc.fns (c.take c.length)):=by rw [Hid,List.take_length,← HHE.out];rfl
  clear HK0 HK1 HO0 HHD HOWN0 c0 cu0 HHE hb1 hY1z hY1
  obtain ⟨a1,c1,hv1⟩:=HO1.out.form
  subst hv1
  go_loopw [3,4] (fun ov t wr => ∃ (k:Nat) (acc:List UInt8) (oa:Option Addr) (oc:Nat),k≤c.length∧t = .int .i64 (k:Int)∧ov = .slice oa acc.length oc∧acc=hd++Wc.fns (c.take k)∧Wc.At w.heap.size wr ov acc∧wr.heap[w.heap.size]? = some (.cells #[.slice ca c.length cc] 24)∧Wc.Kp w.heap.size w wr) (fun _ t _=>c.length - (intOf t).toNat)
  case atStart=>exact ⟨0,hd,a1,c1,by omega,rfl,rfl,by simp [Wc.fns],HO1.out,HPW.out,HKW.out⟩
  case round =>
    obtain ⟨k,acc,oa,oc,hk,rfl,rfl,hacc,ho,hp,hkp⟩:=hrel
    have HACC:Hid (acc=hd++Wc.fns (c.take k)):=hacc
    have HO:Hid (Wc.At w.heap.size wr (.slice oa acc.length oc) acc):=ho
    have HP:Hid (wr.heap[w.heap.size]? = some (.cells #[.slice ca c.length cc] 24)):=hp
    have HKP:Hid (Wc.Kp w.heap.size w wr):=hkp
    have hzr:=hkp.bel.size
    have d0:wr.cell? ⟨w.heap.size,0,none⟩=some (.slice ca c.length cc):=by rw [Lib.cell_of_heap hp];rfl
    have hal:acc.length≤3500000000000:=by
      have h1:=Wc.fns_len HFT.out k
      have h2:=HLN.out
      rw [hacc,List.length_append];omega
    clear hacc ho hp hkp HO1 HPW HKW
    by_cases hlt:k < c.length
    · have hltI:(k:Int) < (c.length:Int):=by omega
      obtain ⟨gc,pv,iv,hcae,hgc,hcell,hPV,hIV⟩:∃ g pv iv,ca=some ⟨g,0,none⟩∧g < w.heap.size∧(∀ j,j < 5→wr.cell? ⟨g,k * 5+j,none⟩=(Cd.fnC c[k] pv iv)[j]?)∧Cd.IntsAt w.heap.size wr pv c[k].params∧Cd.InsAt w.heap.size wr iv c[k].ins:=by
        obtain ⟨a',cp,e,h⟩:=HC.out.below HKP.out.bel
        injection e with e1
        subst e1
        exact h k hlt
      subst hcae
      obtain ⟨f,HF⟩:∃ f,Hid (c[k]=f):=⟨_,(rfl:c[k]=_)⟩
      have hmem:f ∈ c:=by rw [← HF.out];exact List.getElem_mem hlt
      have hf1:=HFT.out.name f hmem
      have hf2:=HFT.out.params f hmem
      have hf3:=HFT.out.ins f hmem
      have HF4:Hid (∀ i ∈ f.ins,i.op=1→i.a=2→i.text.size≤1048576):=HFT.out.text f hmem
      rw [HF.out] at hcell hPV hIV
      have HPV:Hid (Cd.IntsAt w.heap.size wr pv f.params):=hPV
      have HIV:Hid (Cd.InsAt w.heap.size wr iv f.ins):=hIV
      obtain ⟨pa,pc,hpv,-⟩:=hPV
      obtain ⟨ia,ic,hiv,-⟩:=hIV
      subst hpv hiv
      have e0:wr.cell? ⟨gc,k * 5,none⟩=some (.string f.name):=hcell 0 (by omega)
      have e1:wr.cell? ⟨gc,k * 5+1,none⟩=some (.slice pa f.params.length pc):=hcell 1 (by omega)
      have e2:wr.cell? ⟨gc,k * 5+2,none⟩=some (.int .i64 f.result):=hcell 2 (by omega)
      have e3:wr.cell? ⟨gc,k * 5+3,none⟩=some (.int .i64 f.slots):=hcell 3 (by omega)
      have e4:wr.cell? ⟨gc,k * 5+4,none⟩=some (.slice ia f.ins.length ic):=hcell 4 (by omega)
      clear hcell
      go_wp2_with fail
      obtain ⟨V,hV⟩:∃ V,wr.alloc (.cells #[.string f.name,.slice pa f.params.length pc,.int .i64 f.result,.int .i64 f.slots,.slice ia f.ins.length ic] 37)=V:=⟨_,rfl⟩
      rw [hV]
      have hVb:V.heap[wr.heap.size]? = some (.cells #[.string f.name,.slice pa f.params.length pc,.int .i64 f.result,.int .i64 f.slots,.slice ia f.ins.length ic] 37):=by rw [← hV];exact (MapKept.heap_alloc wr _).1
      have hkV:Wc.Kp w.heap.size wr V:=by rw [← hV];exact Wc.Kp.alloc _ wr _ hzr
      have HOV:Hid (Wc.At w.heap.size V (.slice oa acc.length oc) acc):=by rw [Hid,← hV];exact HO.out.below (Wc.b1 wr _)
      have HFB:Hid (∀ U,Wc.Kp w.heap.size V U→(U.cell? ⟨wr.heap.size,0,none⟩=some (.string f.name)∧U.cell? ⟨wr.heap.size,1,none⟩=some (.slice pa f.params.length pc)∧U.cell? ⟨wr.heap.size,2,none⟩=some (.int .i64 f.result)∧U.cell? ⟨wr.heap.size,3,none⟩=some (.int .i64 f.slots)∧U.cell? ⟨wr.heap.size,4,none⟩=some (.slice ia f.ins.length ic))∧Wc.Kp w.heap.size w U∧U.heap[w.heap.size]? = some (.cells #[.slice (some ⟨gc,0,none⟩) c.length cc] 24)∧w.heap.size≤U.heap.size):=fun U hU=>by
        have h:=hU.oth _ _ _ _ hVb (by decide)
        have hW:=HKP.out.trans (hkV.trans hU)
        exact ⟨⟨by rw [Lib.cell_of_heap h];rfl,by rw [Lib.cell_of_heap h];rfl,by rw [Lib.cell_of_heap h];rfl,by rw [Lib.cell_of_heap h];rfl,by rw [Lib.cell_of_heap h];rfl⟩,hW,hU.oth _ _ _ _ (hkV.oth _ _ _ _ HP.out (by decide)) (by decide),hW.bel.size⟩
      have HPV2:Hid (∀ U,Wc.Kp w.heap.size V U→Cd.IntsAt w.heap.size U (.slice pa f.params.length pc) f.params):=fun U hU=>HPV.out.below (hkV.trans hU).bel
      have HIV2:Hid (∀ U,Wc.Kp w.heap.size V U→Cd.InsAt w.heap.size U (.slice ia f.ins.length ic) f.ins):=fun U hU=>HIV.out.below (hkV.trans hU).bel
      have hVz:w.heap.size≤V.heap.size:=Nat.le_trans hzr hkV.bel.size
      clear hVb hV HO HP HPV HIV e0 e1 e2 e3 e4 d0 hkV
      generalize wr.heap.size=gf at *
      have hwr:=Wc.wrap_nat f.params.length (by omega)
      obtain ⟨U0,hU0⟩:∃ U,V.drew=U:=⟨_,rfl⟩
      have hbU0:Below V.heap.size V U0:=by rw [← hU0];exact (Below.refl _ _).drew
      have hkU0:Wc.Kp w.heap.size V U0:=Wc.Kp.of_below hbU0 hVz
      refine wp_region_held_drew (S:=fun U=>U.cell? ⟨gf,0,none⟩=some (.string f.name)∧U.cell? ⟨gf,1,none⟩=some (.slice pa f.params.length pc)∧U.cell? ⟨gf,2,none⟩=some (.int .i64 f.result)∧U.cell? ⟨gf,3,none⟩=some (.int .i64 f.slots)∧U.cell? ⟨gf,4,none⟩=some (.slice ia f.ins.length ic)) (by kernel_rfl) ((HFB.out _ (by rw [hU0];exact hkU0)).1) (fun hHeld => ?_)
      rw [hU0] at hHeld ⊢
      refine wpAnyH_take (i:=0) (v:=.slice oa acc.length oc) rfl (by kernel_rfl) (by kernel_rfl) (by kernel_rfl) (fun _ _ _ h=>h) (Or.inl ⟨by rfl,by intro w hSw;go_simp⟩) (by assumption) ?_
      try simp [Act.put]
      refine wpAnyH_take (i:=1) (v:=.pointer (some ⟨gf,0,none⟩)) rfl (by kernel_rfl) (by kernel_rfl) (by kernel_rfl) (fun _ _ _ h=>h) (Or.inl ⟨by rfl,by intro w hSw;go_simp⟩) (by assumption) ?_
      try simp [Act.put]
      refine wpAnyH_take (i:=2) (v:=.string f.name) rfl (by kernel_rfl) (by kernel_rfl) (by kernel_rfl) (fun _ _ _ h=>h) (Or.inl ⟨by rfl,by intro w hSw;go_simp⟩) (by assumption) ?_
      try simp [Act.put]
      refine wpAnyH_take (i:=4) (v:=.pointer (some ⟨gf,1,none⟩)) rfl (by kernel_rfl) (by kernel_rfl) (by kernel_rfl) (fun _ _ _ h=>h) (Or.inl ⟨by rfl,by intro w hSw;go_simp⟩) (by assumption) ?_
      try simp [Act.put]
      refine wpAnyH_take (i:=5) (v:=.slice pa f.params.length pc) rfl (by kernel_rfl) (by kernel_rfl) (by kernel_rfl) (fun _ _ _ h=>h) (Or.inl ⟨by rfl,by intro w hSw;go_simp⟩) (by assumption) ?_
      try simp [Act.put]
      refine wpAnyH_take (i:=6) (v:=.int .i64 (f.params.length:Int)) rfl (by kernel_rfl) (by kernel_rfl) (by kernel_rfl) (fun _ _ _ h=>h) (Or.inl ⟨by rfl,by intro w hSw;go_simp⟩) (by assumption) ?_
      try simp [Act.put]
      refine wpAnyH_take (i:=7) (v:=.int .u64 (f.params.length:Int)) rfl (by kernel_rfl) (by kernel_rfl) (by kernel_rfl) (fun _ _ _ h=>h) (Or.inl ⟨by rfl,by intro w hSw;go_simp⟩) (by assumption) ?_
      try simp [Act.put]
      refine wpAnyH_ready (rs:=[3]) (by kernel_rfl) (by simp) ?_
      refine AllReadyH.cons rfl (fun KK hK => ?_) AllReadyH.nil
      go_simp
      (go_at_call 36;refine (HTX.out _ acc f.name U0 hf1 (HFB.out U0 hkU0).2.2.2 (HOV.out.below hbU0) (by omega)).mono ?_;rintro e w2 ⟨v2,rfl,ho2,hk2⟩)
      have hkw2:Wc.Kp w.heap.size V w2:=hkU0.trans hk2
      have HO2:Hid (Wc.At w.heap.size w2 v2 (acc++Wc.txt f.name)):=ho2
      clear ho2 hk2
      go_wp2
      refine hK.out _ _ ((HFB.out _ hkw2).1) (fun hHeld => ?_)
      clear hK
      try simp [Act.put]
      refine wpAnyH_ready (rs:=[8]) (by kernel_rfl) (by simp) ?_
      refine AllReadyH.cons rfl (fun KK hK => ?_) AllReadyH.nil
      go_simp
      (go_at_call 35;refine (HN.out v2 (acc++Wc.txt f.name) f.params.length w2 (by omega) (HFB.out w2 hkw2).2.2.2 HO2.out (by have:=Wc.txt_len f.name hf1;rw [List.length_append];omega)).mono ?_;rintro e w3 ⟨v3,rfl,ho3,hk3⟩)
      have hkw3:Wc.Kp w.heap.size V w3:=hkw2.trans hk3
      have HO3:Hid (Wc.At w.heap.size w3 v3 (acc++Wc.txt f.name++Wc.num f.params.length)):=ho3
      clear ho3 hk3
      go_wp2
      refine hK.out _ _ ((HFB.out _ hkw3).1) (fun hHeld => ?_)
      clear hK
      try simp [Act.put]
      refine wpAnyH_take (i:=9) (v:=v3) rfl (by kernel_rfl) (by kernel_rfl) (by kernel_rfl) (fun _ _ _ h=>h) (Or.inl ⟨by rfl,by intro w hSw;go_simp⟩) (by assumption) ?_
      try simp [Act.put]
      refine wpAnyH_done (by kernel_rfl) ?_ _
      obtain ⟨A1,HA1⟩:∃ A,Hid (acc++Wc.txt f.name++Wc.num f.params.length=A):=⟨_,(rfl:acc++Wc.txt f.name++Wc.num f.params.length=_)⟩
      have hA1:A1.length≤3600000000000:=by
        rw [← HA1.out,List.length_append,List.length_append]
        have h1:=Wc.txt_len f.name hf1
        have h2:=Wc.num_ten (n:=f.params.length) (by omega)
        omega
      rw [HA1.out] at HO3
      obtain ⟨a3,c3,hv3⟩:=HO3.out.form
      subst hv3
      have HKW3:Hid (Wc.Kp w.heap.size V w3):=hkw3
      clear hkw3 hkw2 hkU0 HO2 HOV hbU0 hU0 hHeld HKP
      go_wp2_with fail
      go_loopw [3,6] (fun ov t wx => ∃ (i:Nat) (l:List UInt8) (xa:Option Addr) (xc:Nat),i≤f.params.length∧t = .int .i64 (i:Int)∧ov = .slice xa l.length xc∧l=A1++Wc.pars (f.params.take i)∧Wc.At w.heap.size wx ov l∧Wc.Kp w.heap.size V wx) (fun _ t _=>f.params.length - (intOf t).toNat)
      case atStart=>exact ⟨0,A1,a3,c3,by omega,rfl,rfl,by simp [Wc.pars],HO3.out,HKW3.out⟩
      case round =>
        obtain ⟨i,l,xa,xc,hi',rfl,rfl,hl,ho,hk⟩:=hrel
        have HL:Hid (l=A1++Wc.pars (f.params.take i)):=hl
        have HO:Hid (Wc.At w.heap.size wr (.slice xa l.length xc) l):=ho
        have HK:Hid (Wc.Kp w.heap.size V wr):=hk
        have hll:l.length≤3700000000000:=by
          have h1:=Wc.pars_len (f.params.take i) (by rw [List.length_take];omega)
          rw [hl,List.length_append];omega
        obtain ⟨⟨y0,y1,y2,y3,y4⟩,-,-,hz⟩:=HFB.out wr hk
        clear hl ho hk HO3 HKW3
        by_cases hli:i < f.params.length
        · have hliI:(i:Int) < (f.params.length:Int):=by omega
          obtain ⟨gp,op,hpae,hpc⟩:∃ g o,pa=some ⟨g,o,none⟩∧wr.cell? ⟨g,o+i,none⟩=some (.int .i64 f.params[i]):=by
            obtain ⟨a',cp,e,h⟩:=HPV2.out wr HK.out
            injection e with e1
            subst e1
            obtain ⟨g,o,h1,-,h2⟩:=h i hli
            exact ⟨g,o,h1,h2⟩
          subst hpae
          obtain ⟨x,HX⟩:∃ x,Hid (f.params[i]=x):=⟨_,(rfl:f.params[i]=_)⟩
          rw [HX.out] at hpc
          go_wp2_with (first | (go_at_call 35;refine (HNW.out _ l x wr hz HO.out (by omega)).mono ?_;rintro e w5 ⟨v5,rfl,ho5,hk5⟩;have HO5:Hid (Wc.At w.heap.size w5 v5 (l++Wc.num (Wc.u x))):=ho5;have HK5:Hid (Wc.Kp w.heap.size V w5):=HK.out.trans hk5;clear ho5 hk5))
          obtain ⟨a5,c5,hv5⟩:=HO5.out.form
          subst hv5
          go_roundw
          case rel=>exact ⟨i+1,l++Wc.num (Wc.u x),a5,c5,by omega,by go_num,rfl,by rw [HL.out,List.append_assoc,← HX.out];unfold Wc.pars;rw [Wc.flat_take _ f.params i hli],HO5.out,HK5.out⟩
          case measure=>simp [intOf];omega
        · have hliI:¬ (i:Int) < (f.params.length:Int):=by omega
          have HL2:Hid (l=A1++Wc.pars f.params):=by rw [Hid,HL.out,List.take_of_length_le (by omega)]
          clear HL
          go_wp2_with (first
            | (go_at_call 35;refine (HN.out v7 (l++Wc.num (Wc.u f.result)++Wc.num (Wc.u f.slots)) f.ins.length w7 (by omega) (HFB.out w7 HK7.out).2.2.2 HO7.out (by simp only [List.length_append];have:=Wc.num_u f.result;have:=Wc.num_u f.slots;omega)).mono ?_;rintro e w8 ⟨v8,rfl,ho8,hk8⟩;have HO8:Hid (Wc.At w.heap.size w8 v8 (l++Wc.num (Wc.u f.result)++Wc.num (Wc.u f.slots)++Wc.num f.ins.length)):=ho8;have HK8:Hid (Wc.Kp w.heap.size V w8):=HK7.out.trans hk8;clear ho8 hk8)
            | (go_at_call 35;refine (HNW.out v6 (l++Wc.num (Wc.u f.result)) f.slots w6 (HFB.out w6 HK6.out).2.2.2 HO6.out (by rw [List.length_append];have:=Wc.num_u f.result;omega)).mono ?_;rintro e w7 ⟨v7,rfl,ho7,hk7⟩;have HO7:Hid (Wc.At w.heap.size w7 v7 (l++Wc.num (Wc.u f.result)++Wc.num (Wc.u f.slots))):=ho7;have HK7:Hid (Wc.Kp w.heap.size V w7):=HK6.out.trans hk7;clear ho7 hk7;obtain ⟨⟨-,-,-,-,z4⟩,-,-,-⟩:=HFB.out w7 HK7.out)
            | (go_at_call 35;refine (HNW.out _ l f.result wr hz HO.out (by omega)).mono ?_;rintro e w6 ⟨v6,rfl,ho6,hk6⟩;have HO6:Hid (Wc.At w.heap.size w6 v6 (l++Wc.num (Wc.u f.result))):=ho6;have HK6:Hid (Wc.Kp w.heap.size V w6):=HK.out.trans hk6;clear ho6 hk6;obtain ⟨⟨-,-,-,z3,-⟩,-,-,-⟩:=HFB.out w6 HK6.out))
          have HA2:Hid (l++Wc.num (Wc.u f.result)++Wc.num (Wc.u f.slots)++Wc.num f.ins.length=acc++Wc.fnH f):=by
            rw [Hid,HL2.out,← HA1.out];unfold Wc.fnH;simp only [List.append_assoc]
          rw [HA2.out] at HO8
          clear HA2 HL2 HA1 HO HO6 HO7 HK6 HK7
          obtain ⟨A2,HA3⟩:∃ A,Hid (acc++Wc.fnH f=A):=⟨_,(rfl:acc++Wc.fnH f=_)⟩
          have hA2:A2.length≤3600000000000:=by
            rw [← HA3.out,List.length_append]
            have:=Wc.fnH_len f hf1 hf2 hf3
            omega
          rw [HA3.out] at HO8
          obtain ⟨a8,c8,hv8⟩:=HO8.out.form
          subst hv8
          go_loopw [3,7] (fun ov t wx => ∃ (i:Nat) (l:List UInt8) (xa:Option Addr) (xc:Nat),i≤f.ins.length∧t = .int .i64 (i:Int)∧ov = .slice xa l.length xc∧l=A2++Wc.inss (f.ins.take i)∧Wc.At w.heap.size wx ov l∧Wc.Kp w.heap.size V wx) (fun _ t _=>f.ins.length - (intOf t).toNat)
          case atStart=>exact ⟨0,A2,a8,c8,by omega,rfl,rfl,by simp [Wc.inss],HO8.out,HK8.out⟩
          case round =>
            obtain ⟨i2,l2,xa2,xc2,hi2,rfl,rfl,hl2,ho2,hk2⟩:=hrel
            have HL2i:Hid (l2=A2++Wc.inss (f.ins.take i2)):=hl2
            have HO2:Hid (Wc.At w.heap.size wr (.slice xa2 l2.length xc2) l2):=ho2
            have HK2:Hid (Wc.Kp w.heap.size V wr):=hk2
            have hll2:l2.length≤3700000000000:=by
              have h1:=Wc.inss_len (f.ins.take i2) (by rw [List.length_take];omega) (fun x hx=>HF4.out x (List.mem_of_mem_take hx))
              rw [hl2,List.length_append];omega
            obtain ⟨⟨q0,q1,q2,q3,q4⟩,-,hpc,hzw⟩:=HFB.out wr hk2
            clear hl2 ho2 hk2 HO8 HK8
            by_cases hli2:i2 < f.ins.length
            · have hli2I:(i2:Int) < (f.ins.length:Int):=by omega
              obtain ⟨gi,hiae,g0,g1,g2,g3⟩:∃ g,ia=some ⟨g,0,none⟩∧wr.cell? ⟨g,i2 * 4,none⟩=some (.int .i64 f.ins[i2].op)∧wr.cell? ⟨g,i2 * 4+1,none⟩=some (.int .i64 f.ins[i2].a)∧wr.cell? ⟨g,i2 * 4+2,none⟩=some (.int .i64 f.ins[i2].n)∧wr.cell? ⟨g,i2 * 4+3,none⟩=some (.string f.ins[i2].text):=by
                obtain ⟨a',cp,e,h⟩:=HIV2.out wr HK2.out
                injection e with e1
                subst e1
                obtain ⟨g,h1,-,h2⟩:=h i2 hli2
                exact ⟨g,h1,h2 0 (by omega),h2 1 (by omega),h2 2 (by omega),h2 3 (by omega)⟩
              subst hiae
              have HTX0:=HF4.out f.ins[i2] (List.getElem_mem hli2)
              have HNX:Hid (A2++Wc.inss (f.ins.take (i2+1))=A2++Wc.inss (f.ins.take i2)++Wc.ins f.ins[i2]):=by
                rw [Hid];unfold Wc.inss;rw [Wc.flat_take _ f.ins i2 hli2,List.append_assoc]
              obtain ⟨d,HD⟩:∃ d,Hid (f.ins[i2]=d):=⟨_,(rfl:f.ins[i2]=_)⟩
              rw [HD.out] at g0 g1 g2 g3 HTX0 HNX
              have HTXT:Hid (d.op=1→d.a=2→d.text.size≤1048576):=HTX0
              clear HTX0 HD
              obtain ⟨V2,hV2⟩:∃ V2,wr.alloc (.cells #[.int .i64 d.op,.int .i64 d.a,.int .i64 d.n,.string d.text] 54)=V2:=⟨_,rfl⟩
              have hV2b:V2.heap[wr.heap.size]? = some (.cells #[.int .i64 d.op,.int .i64 d.a,.int .i64 d.n,.string d.text] 54):=by rw [← hV2];exact (MapKept.heap_alloc wr _).1
              have HKV2:Hid (Wc.Kp w.heap.size V V2):=HK2.out.trans (by rw [← hV2];exact Wc.Kp.alloc _ wr _ hzw)
              have HOV2:Hid (Wc.At w.heap.size V2 (.slice xa2 l2.length xc2) l2):=by rw [Hid,← hV2];exact HO2.out.below (Wc.b1 wr _)
              have HXB:Hid (∀ U,Wc.Kp w.heap.size V2 U→(U.cell? ⟨wr.heap.size,0,none⟩=some (.int .i64 d.op)∧U.cell? ⟨wr.heap.size,1,none⟩=some (.int .i64 d.a)∧U.cell? ⟨wr.heap.size,2,none⟩=some (.int .i64 d.n)∧U.cell? ⟨wr.heap.size,3,none⟩=some (.string d.text))∧w.heap.size≤U.heap.size):=fun U hU=>by
                have h:=hU.oth _ _ _ _ hV2b (by decide)
                exact ⟨⟨by rw [Lib.cell_of_heap h];rfl,by rw [Lib.cell_of_heap h];rfl,by rw [Lib.cell_of_heap h];rfl,by rw [Lib.cell_of_heap h];rfl⟩,(HFB.out U (HKV2.out.trans hU)).2.2.2⟩
              obtain ⟨⟨r0,r1,r2,r3⟩,hz2⟩:=HXB.out V2 (Wc.Kp.refl _ _)
              have hn1:=Wc.num_u d.op
              have hn2:=Wc.num_u d.a
              clear hV2b HO2
              obtain ⟨dd,HINS⟩:∃ x,Hid (Wc.ins d=x):=⟨_,(rfl:Wc.ins d=_)⟩
              rw [HINS.out] at HNX
              by_cases h1':d.op=1
              · have HA:Hid (Cd.hasA d.op=true):=by rw [Hid,h1'];rfl
                have HB1:Hid ((d.op == 1)=true):=by rw [Hid];simp [h1']
                have H1:Hid (d.op=1):=h1'
                clear h1'
                by_cases h2':d.a=2
                · have HB2:Hid ((d.a == 2)=true):=by rw [Hid];simp [h2']
                  have H2:Hid (d.a=2):=h2'
                  clear h2'
                  go_wp2_with (first | (go_at_call 36;refine (HTX.out vwb (l2++Wc.num (Wc.u d.op)++Wc.num (Wc.u d.a)) d.text wb (HTXT.out H1.out H2.out) hzb HOwb.out (by first | omega | (simp only [List.length_append];omega))).mono ?_;rintro e wc ⟨vwc,rfl,howc,hkwc⟩;have HOwc:Hid (Wc.At w.heap.size wc vwc (l2++Wc.num (Wc.u d.op)++Wc.num (Wc.u d.a)++Wc.txt d.text)):=howc;have HKwc:Hid (Wc.Kp w.heap.size V2 wc):=HKwb.out.trans hkwc;clear howc hkwc) | (go_at_call 35;refine (HNW.out vwa (l2++Wc.num (Wc.u d.op)) d.a wa hza HOwa.out (by first | omega | (simp only [List.length_append];omega))).mono ?_;rintro e wb ⟨vwb,rfl,howb,hkwb⟩;have HOwb:Hid (Wc.At w.heap.size wb vwb (l2++Wc.num (Wc.u d.op)++Wc.num (Wc.u d.a))):=howb;have HKwb:Hid (Wc.Kp w.heap.size V2 wb):=HKwa.out.trans hkwb;clear howb hkwb;obtain ⟨t0,t1,t2,t3⟩:=(HXB.out wb HKwb.out).1;have hzb:=(HXB.out wb HKwb.out).2;have hb1:=HB1.out;have hb2:=HB2.out) | (go_at_call 33;refine (Cd.hasA_any d.op wa).mono ?_;rintro e w' ⟨rfl,rfl⟩;rw [HA.out]) | (go_at_call 35;refine (HNW.out _ (l2) d.op V2 hz2 HOV2.out (by first | omega | (simp only [List.length_append];omega))).mono ?_;rintro e wa ⟨vwa,rfl,howa,hkwa⟩;have HOwa:Hid (Wc.At w.heap.size wa vwa (l2++Wc.num (Wc.u d.op))):=howa;have HKwa:Hid (Wc.Kp w.heap.size V2 wa):=(Wc.Kp.refl _ V2).trans hkwa;clear howa hkwa;obtain ⟨s0,s1,s2,s3⟩:=(HXB.out wa HKwa.out).1;have hza:=(HXB.out wa HKwa.out).2))
                  obtain ⟨a9,c9,hv9⟩:=HOwc.out.form
                  subst hv9
                  have HIN:Hid (l2++Wc.num (Wc.u d.op)++Wc.num (Wc.u d.a)++Wc.txt d.text=A2++Wc.inss (f.ins.take (i2+1))):=by
                    rw [Hid,HNX.out,HL2i.out,← HINS.out]
                    unfold Wc.ins Wc.opt Wc.lit;rw [if_pos HA.out,if_pos H1.out,if_pos H2.out];simp only [List.append_assoc]
                  go_roundw
                  case rel=>exact ⟨i2+1,_,a9,c9,by omega,by go_num,rfl,HIN.out,HOwc.out,HKV2.out.trans HKwc.out⟩
                  case measure=>simp [intOf];omega
                · have HB2:Hid ((d.a == 2)=false):=by rw [Hid];simp [h2']
                  have H2:Hid (¬ d.a=2):=h2'
                  clear h2'
                  go_wp2_with (first | (go_at_call 35;refine (HNW.out vwb (l2++Wc.num (Wc.u d.op)++Wc.num (Wc.u d.a)) d.n wb hzb HOwb.out (by first | omega | (simp only [List.length_append];omega))).mono ?_;rintro e wc ⟨vwc,rfl,howc,hkwc⟩;have HOwc:Hid (Wc.At w.heap.size wc vwc (l2++Wc.num (Wc.u d.op)++Wc.num (Wc.u d.a)++Wc.num (Wc.u d.n))):=howc;have HKwc:Hid (Wc.Kp w.heap.size V2 wc):=HKwb.out.trans hkwc;clear howc hkwc;skip) | (go_at_call 35;refine (HNW.out vwa (l2++Wc.num (Wc.u d.op)) d.a wa hza HOwa.out (by first | omega | (simp only [List.length_append];omega))).mono ?_;rintro e wb ⟨vwb,rfl,howb,hkwb⟩;have HOwb:Hid (Wc.At w.heap.size wb vwb (l2++Wc.num (Wc.u d.op)++Wc.num (Wc.u d.a))):=howb;have HKwb:Hid (Wc.Kp w.heap.size V2 wb):=HKwa.out.trans hkwb;clear howb hkwb;obtain ⟨t0,t1,t2,t3⟩:=(HXB.out wb HKwb.out).1;have hzb:=(HXB.out wb HKwb.out).2;have hb1:=HB1.out;have hb2:=HB2.out) | (go_at_call 33;refine (Cd.hasA_any d.op wa).mono ?_;rintro e w' ⟨rfl,rfl⟩;rw [HA.out]) | (go_at_call 35;refine (HNW.out _ (l2) d.op V2 hz2 HOV2.out (by first | omega | (simp only [List.length_append];omega))).mono ?_;rintro e wa ⟨vwa,rfl,howa,hkwa⟩;have HOwa:Hid (Wc.At w.heap.size wa vwa (l2++Wc.num (Wc.u d.op))):=howa;have HKwa:Hid (Wc.Kp w.heap.size V2 wa):=(Wc.Kp.refl _ V2).trans hkwa;clear howa hkwa;obtain ⟨s0,s1,s2,s3⟩:=(HXB.out wa HKwa.out).1;have hza:=(HXB.out wa HKwa.out).2))
                  obtain ⟨a9,c9,hv9⟩:=HOwc.out.form
                  subst hv9
                  have HIN:Hid (l2++Wc.num (Wc.u d.op)++Wc.num (Wc.u d.a)++Wc.num (Wc.u d.n)=A2++Wc.inss (f.ins.take (i2+1))):=by
                    rw [Hid,HNX.out,HL2i.out,← HINS.out]
                    unfold Wc.ins Wc.opt Wc.lit;rw [if_pos HA.out,if_pos H1.out,if_neg H2.out];simp only [List.append_assoc]
                  go_roundw
                  case rel=>exact ⟨i2+1,_,a9,c9,by omega,by go_num,rfl,HIN.out,HOwc.out,HKV2.out.trans HKwc.out⟩
                  case measure=>simp [intOf];omega
              · have HB1:Hid ((d.op == 1)=false):=by rw [Hid];simp [h1']
                have H1:Hid (¬ d.op=1):=h1'
                clear h1'
                by_cases hA:Cd.hasA d.op=true
                · have HA:Hid (Cd.hasA d.op=true):=hA
                  clear hA
                  go_wp2_with (first | (go_at_call 35;refine (HNW.out vwa (l2++Wc.num (Wc.u d.op)) d.a wa hza HOwa.out (by first | omega | (simp only [List.length_append];omega))).mono ?_;rintro e wb ⟨vwb,rfl,howb,hkwb⟩;have HOwb:Hid (Wc.At w.heap.size wb vwb (l2++Wc.num (Wc.u d.op)++Wc.num (Wc.u d.a))):=howb;have HKwb:Hid (Wc.Kp w.heap.size V2 wb):=HKwa.out.trans hkwb;clear howb hkwb;obtain ⟨t0,t1,t2,t3⟩:=(HXB.out wb HKwb.out).1;have hzb:=(HXB.out wb HKwb.out).2;have hb1:=HB1.out) | (go_at_call 33;refine (Cd.hasA_any d.op wa).mono ?_;rintro e w' ⟨rfl,rfl⟩;rw [HA.out]) | (go_at_call 35;refine (HNW.out _ (l2) d.op V2 hz2 HOV2.out (by first | omega | (simp only [List.length_append];omega))).mono ?_;rintro e wa ⟨vwa,rfl,howa,hkwa⟩;have HOwa:Hid (Wc.At w.heap.size wa vwa (l2++Wc.num (Wc.u d.op))):=howa;have HKwa:Hid (Wc.Kp w.heap.size V2 wa):=(Wc.Kp.refl _ V2).trans hkwa;clear howa hkwa;obtain ⟨s0,s1,s2,s3⟩:=(HXB.out wa HKwa.out).1;have hza:=(HXB.out wa HKwa.out).2))
                  obtain ⟨a9,c9,hv9⟩:=HOwb.out.form
                  subst hv9
                  have HIN:Hid (l2++Wc.num (Wc.u d.op)++Wc.num (Wc.u d.a)=A2++Wc.inss (f.ins.take (i2+1))):=by
                    rw [Hid,HNX.out,HL2i.out,← HINS.out]
                    unfold Wc.ins Wc.opt Wc.lit;rw [if_pos HA.out,if_neg H1.out];simp only [List.append_assoc,List.append_nil]
                  go_roundw
                  case rel=>exact ⟨i2+1,_,a9,c9,by omega,by go_num,rfl,HIN.out,HOwb.out,HKV2.out.trans HKwb.out⟩
                  case measure=>simp [intOf];omega
                · have HA:Hid (Cd.hasA d.op=false):=by rw [Hid];simpa using hA
                  clear hA
                  go_wp2_with (first | (go_at_call 33;refine (Cd.hasA_any d.op wa).mono ?_;rintro e w' ⟨rfl,rfl⟩;rw [HA.out];have hb1:=HB1.out) | (go_at_call 35;refine (HNW.out _ (l2) d.op V2 hz2 HOV2.out (by first | omega | (simp only [List.length_append];omega))).mono ?_;rintro e wa ⟨vwa,rfl,howa,hkwa⟩;have HOwa:Hid (Wc.At w.heap.size wa vwa (l2++Wc.num (Wc.u d.op))):=howa;have HKwa:Hid (Wc.Kp w.heap.size V2 wa):=(Wc.Kp.refl _ V2).trans hkwa;clear howa hkwa;obtain ⟨s0,s1,s2,s3⟩:=(HXB.out wa HKwa.out).1;have hza:=(HXB.out wa HKwa.out).2))
                  obtain ⟨a9,c9,hv9⟩:=HOwa.out.form
                  subst hv9
                  have HIN:Hid (l2++Wc.num (Wc.u d.op)=A2++Wc.inss (f.ins.take (i2+1))):=by
                    rw [Hid,HNX.out,HL2i.out,← HINS.out]
                    unfold Wc.ins Wc.opt Wc.lit;rw [if_neg (by rw [HA.out];simp),if_neg H1.out];simp only [List.append_nil]
                  go_roundw
                  case rel=>exact ⟨i2+1,_,a9,c9,by omega,by go_num,rfl,HIN.out,HOwa.out,HKV2.out.trans HKwa.out⟩
                  case measure=>simp [intOf];omega
            · have hli2I:¬ (i2:Int) < (f.ins.length:Int):=by omega
              have HALL:Hid (l2=hd++Wc.fns (c.take (k+1))):=by
                rw [Hid,HL2i.out,List.take_of_length_le (by omega),← HA3.out,HACC.out]
                unfold Wc.fns
                rw [Wc.flat_take _ c k hlt,HF.out]
                unfold Wc.fn
                simp only [List.append_assoc]
              have HKE:Hid (Wc.Kp w.heap.size w wr):=(HFB.out wr HK2.out).2.1
              go_wp2_with fail
              go_roundw
              case rel=>exact ⟨k+1,l2,xa2,xc2,by omega,by go_num,rfl,HALL.out,HO2.out,hpc,HKE.out⟩
              case measure=>simp [intOf];omega
    · have hltI:¬ (k:Int) < (c.length:Int):=by omega
      have hkc:k=c.length:=by omega
      subst hkc
      go_wp2_with fail
      go_ret
      exact ⟨_,rfl,by rw [HFORM.out,← HACC.out];exact HO.out,HKP.out.bel⟩
end Go.Proofs.YtbkhedpabfanoaaGreatDoor
