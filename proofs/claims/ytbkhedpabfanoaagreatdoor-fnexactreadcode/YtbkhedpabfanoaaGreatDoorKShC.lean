import Derived.Test.YtbkhedpabfanoaaGreatDoorKCgB
import Derived.Lib.ConvBytes
import Derived.Deep.RegionWith
import Derived.Test.YtbkhedpabfanoaaGreatDoorKRcG
namespace Go.Proofs.YtbkhedpabfanoaaGreatDoor
open Go.RowKit

def Cd.digs : Nat→Int→ByteArray→ByteArray
  | 0,_,out=>out
  | f+1,k,out=>if 0 < k then Cd.digs f (k / 10) (⟨#[UInt8.ofNat (48+k % 10).toNat]⟩++out) else out
def Cd.mark (k:Int):ByteArray:=⟨#[109]⟩++Cd.digs (k.toNat+1) k ⟨#[]⟩
theorem Cd.digs_pos (f:Nat) (k:Int) (out:ByteArray) (h:0 < k):Cd.digs (f+1) k out=Cd.digs f (k / 10) (⟨#[UInt8.ofNat (48+k % 10).toNat]⟩++out):=by rw [Cd.digs,if_pos h]
theorem Cd.digs_zero (f:Nat) (k:Int) (out:ByteArray) (h:¬ 0 < k):Cd.digs f k out=out:=by
  cases f with
  | zero=>rfl
  | succ f=>rw [Cd.digs,if_neg h]
theorem Cd.size_one (x:UInt8):(⟨#[x]⟩:ByteArray).size=1:=rfl
theorem Cd.byte_back (x:Int) (h0:0≤x) (h1:x≤255):((UInt8.ofNat x.toNat).toNat:Int)=x:=by
  rw [UInt8.toNat_ofNat'];omega
theorem Cd.conv_one (w:World) (x:Int) (h0:0≤x) (h1:x≤255) :
    Sem.run Tryz.prog (convert 57 9 (.slice (some ⟨w.heap.size,0,none⟩) 1 1)) (w.alloc (.cells #[.int .u8 x] 5)) = .ok (.string ⟨#[UInt8.ofNat x.toNat]⟩) (w.alloc (.cells #[.int .u8 x] 5)):=by
  refine run_convert_bytes_back (P:=Tryz.prog) (w.alloc (.cells #[.int .u8 x] 5)) 57 9 5 ⟨w.heap.size,0,none⟩ 1 [UInt8.ofNat x.toNat] Tryz.underlying57 Tryz.underlying5 Tryz.underlying9 ?_
  intro j hj
  have hj0:j=0:=by simp at hj;omega
  subst hj0
  simp only [List.getElem_cons_zero,Cd.byte_back x h0 h1]
  rw [World.cell?,show ((⟨w.heap.size,0,none⟩:Addr).add 0).block=w.heap.size from rfl,(MapKept.heap_alloc w _).1]
  rfl
theorem Cd.ret_val {a b:Value} (h:a=b):(Ending.returned a:Ending) = .returned b:=by rw [h]
set_option maxRecDepth 100000 in
set_option maxHeartbeats 1000000 in
theorem Cd.markText_any (k:Int) (w:World) (h1:1≤k) (h2:k≤100000000000000) :
    Calls Tryz.prog 28 #[.int .i64 k] w fun e w'=>e = .returned (.string (Cd.mark k))∧Below w.heap.size w w':=by
  go_enter Tryz.func28,Tryz.ntmps28
  go_wp2
  go_loopw [0,3] (fun t v wr => ∃ (j:Int) (f:Nat) (out:ByteArray),0≤j∧j≤k∧j < f∧(out.size:Int)≤k - j∧t = .int .i64 j∧v = .string out∧Cd.digs f j out=Cd.digs (k.toNat+1) k ⟨#[]⟩∧Below w.heap.size w wr) (fun t _ _=>(intOf t).toNat)
  case atStart=>exact ⟨k,k.toNat+1,⟨#[]⟩,by omega,by omega,by omega,by simp [ByteArray.size],rfl,rfl,rfl,Below.refl _ _⟩
  case round =>
    obtain ⟨j,f,out,hj0,hj1,hjf,hos,rfl,rfl,hd,hb⟩:=hrel
    by_cases hp:0 < j
    · obtain ⟨f,rfl⟩:∃ f',f=f'+1:=⟨f - 1,by omega⟩
      have HD:Hid (Cd.digs f (j / 10) (⟨#[UInt8.ofNat (48+j % 10).toNat]⟩++out)=Cd.digs (k.toNat+1) k ⟨#[]⟩):=by rw [Cd.digs_pos _ _ _ hp] at hd;exact hd
      clear hd
      have hcv:=Cd.conv_one wr (48+j % 10) (by omega) (by omega)
      go_wp2
      go_roundw
      case rel=>exact ⟨j / 10,f,_,by omega,by omega,by omega,by rw [ByteArray.size_append,Cd.size_one];omega,rfl,rfl,HD.out,hb.alloc hb.size _⟩
      case measure=>simp [intOf];omega
    · have HD:Hid (out=Cd.digs (k.toNat+1) k ⟨#[]⟩):=by rw [Cd.digs_zero _ _ _ hp] at hd;exact hd
      clear hd
      have HM:Hid (Value.string (⟨#[109]⟩++out) = .string (Cd.mark k)):=by rw [Hid,Cd.mark,← HD.out]
      go_wp2
      go_ret
      exact ⟨Cd.ret_val HM.out,hb⟩
end Go.Proofs.YtbkhedpabfanoaaGreatDoor
namespace Go.Proofs.YtbkhedpabfanoaaGreatDoor
open Go.RowKit

theorem Rc.own_store {w:World} {B e size n:Nat} {v:Value} {xs:List Value} (h:w.ownsRow B e size v n xs) {g:Nat} (hg:v.ownBlock=some g) (j:Nat) (x:Value):(w.setCell ⟨g,j,none⟩ x).ownsRow B e size v n (xs.set j x):=by
  obtain ⟨h1,h2⟩:=h
  refine ⟨by rw [List.length_set];exact h1, ?_⟩
  rcases h2 with ⟨rfl,h0⟩ | ⟨g',cap,cur,rfl,hB,hh,a1,a2,a3,a4⟩
  · simp [Value.ownBlock] at hg
  · have:g'=g:=by simpa [Value.ownBlock] using hg
    subst this
    refine .inr ⟨g',cap,cur.setIfInBounds j x,rfl,hB,Rc.set_same hh,a1,a2,by rw [Array.size_setIfInBounds];exact a3, ?_⟩
    rw [Array.toList_setIfInBounds,List.take_set,a4]
theorem Rc.own_there {w:World} {B e size n:Nat} {v:Value} {xs:List Value} (h:w.ownsRow B e size v n xs) {g:Nat} (hg:v.ownBlock=some g) (j:Nat) (hj:j < n * size):(∃ y,w.cell? ⟨g,j,none⟩=some y)∧w.frozen? ⟨g,j,none⟩=false:=by
  have hx:j < xs.length:=by rw [h.1];exact hj
  refine ⟨⟨_,Rc.own_cells h hg j _ (List.getElem?_eq_getElem hx)⟩, ?_⟩
  obtain ⟨-,cur,hc⟩:=Rc.row_type h hg
  simp [World.frozen?,hc]
theorem Rc.own_ptr {w:World} {B e size n:Nat} {a:Option Addr} {m cap:Nat} {xs:List Value} (h:w.ownsRow B e size (.slice a m cap) n xs) (hn:0 < n):∃ g,a=some ⟨g,0,none⟩∧(Value.slice a m cap).ownBlock=some g:=by
  obtain ⟨g,c,e1,e2,_⟩:=Rc.own_some h hn
  injection e1 with e1
  exact ⟨g,e1,e2⟩
def Rc.mInts (k:Int) (n:Nat):List Int:=(List.range n).map (fun j:Nat=>k+(j:Int))
def Rc.mOne (k:Int):Cd.Ins:=⟨k,k+1,k+1+1,Cd.mark (k+1+1+1)⟩
def Rc.mInss (k:Int) (n:Nat):List Cd.Ins:=(List.range n).map (fun j:Nat=>Rc.mOne (k+4 * (j:Int)))
theorem Rc.mInts_len (k:Int) (n:Nat):(Rc.mInts k n).length=n:=by simp [Rc.mInts]
theorem Rc.mInss_len (k:Int) (n:Nat):(Rc.mInss k n).length=n:=by simp [Rc.mInss]
theorem Rc.mInts_succ (k:Int) (n:Nat):Rc.mInts k (n+1)=Rc.mInts k n++[k+(n:Int)]:=by simp [Rc.mInts,List.range_succ]
theorem Rc.mInss_succ (k:Int) (n:Nat):Rc.mInss k (n+1)=Rc.mInss k n++[Rc.mOne (k+4 * (n:Int))]:=by simp [Rc.mInss,List.range_succ]
theorem Rc.set_next {a b:List Value} {x y:Value}:(a++x::b).set a.length y=a++y::b:=by rw [List.set_append_right _ _ (Nat.le_refl _)];simp
theorem Rc.mrow_next {l:List Int} {k:Int} {i:Nat} (hi:i < l.length):(Cd.ints (Rc.mInts k i++l.drop i)).set i (.int .i64 (k+(i:Int)))=Cd.ints (Rc.mInts k (i+1)++l.drop (i+1)):=by
  rw [List.drop_eq_getElem_cons hi,Rc.mInts_succ,Cd.ints_app]
  have e:(Cd.ints (Rc.mInts k i)).length=i:=by simp [Cd.ints,Rc.mInts_len]
  have e2:Cd.ints (l[i]::l.drop (i+1)) = .int .i64 l[i]::Cd.ints (l.drop (i+1)):=rfl
  rw [e2]
  conv=>lhs;arg 2;rw [← e]
  rw [Rc.set_next]
  simp [Cd.ints]
set_option maxRecDepth 100000 in
set_option maxHeartbeats 1000000 in
theorem Rc.markIntS_any (A:Nat) (l:List Int) (a:Option Addr) (cap:Nat) (k:Int) (h1:0≤k) (h2:k≤100000000000000) (hl:l.length≤1048576) (w:World) (ho:w.ownsRow A 3 1 (.slice a l.length cap) l.length (Cd.ints l)) :
    Calls Tryz.prog 29 #[.slice a l.length cap,.int .i64 k] w fun e w'=>e = .returned (.int .i64 (k+(l.length:Int)))∧w'.ownsRow A 3 1 (.slice a l.length cap) l.length (Cd.ints (Rc.mInts k l.length))∧Rc.Fr (fun j=>(Value.slice a l.length cap).ownBlock=some j) w w':=by
  have HO:Hid (w.ownsRow A 3 1 (.slice a l.length cap) l.length (Cd.ints l)):=ho
  obtain ⟨n,HN⟩:∃ n,Hid (l.length=n):=⟨_,(rfl:l.length=_)⟩
  clear ho
  rw [HN.out] at HO hl ⊢
  go_enter Tryz.func29,Tryz.ntmps29
  go_wp2_with fail
  go_loopw [1,5] (fun q t wr => ∃ (i:Nat),i≤n∧t = .int .i64 (i:Int)∧q = .int .i64 (k+(i:Int))∧wr.ownsRow A 3 1 (.slice a n cap) n (Cd.ints (Rc.mInts k i++l.drop i))∧Rc.Fr (fun j=>(Value.slice a n cap).ownBlock=some j) w wr) (fun _ t _=>n - (intOf t).toNat)
  case atStart=>exact ⟨0,by omega,rfl,by simp,HO.out,Rc.Fr.refl _ _⟩
  case round =>
    obtain ⟨i,hi,rfl,rfl,hown,hfr⟩:=hrel
    by_cases hlt:i < n
    · have hltI:(i:Int) < (n:Int):=by omega
      obtain ⟨p,e1,e2⟩:=Rc.own_ptr hown (by omega)
      subst e1
      obtain ⟨⟨y0,k0⟩,f0⟩:=Rc.own_there hown e2 i (by omega)
      have HST:Hid ((wr.setCell ⟨p,i,none⟩ (.int .i64 (k+(i:Int)))).ownsRow A 3 1 (.slice (some ⟨p,0,none⟩) n cap) n (Cd.ints (Rc.mInts k (i+1)++l.drop (i+1)))):=by
        have:=Rc.own_store hown e2 i (.int .i64 (k+(i:Int)))
        rw [Rc.mrow_next (by rw [HN.out];exact hlt)] at this
        exact this
      have HTW:Hid (Rc.Fr (fun j=>(Value.slice (some ⟨p,0,none⟩) n cap).ownBlock=some j) w (wr.setCell ⟨p,i,none⟩ (.int .i64 (k+(i:Int))))):=hfr.trans (Rc.Fr.set wr p i _ e2)
      obtain ⟨K,HK⟩:∃ K,Hid (k+(i:Int)=K):=⟨_,(rfl:_=_)⟩
      have hK:0≤K∧K≤200000000000000:=by have:=HK.out;omega
      rw [HK.out] at HST HTW ⊢
      clear hown hfr e2
      go_wp2_with fail
      go_roundw
      case rel =>
        refine ⟨i+1,by omega,by go_num, ?_,HST.out,HTW.out⟩
        rw [show k+((i+1:Nat):Int)=K+1 by have:=HK.out;omega]
      case measure=>simp [intOf];omega
    · have hltI:¬ (i:Int) < (n:Int):=by omega
      have hin:i=n:=by omega
      subst hin
      have HEND:Hid (wr.ownsRow A 3 1 (.slice a i cap) i (Cd.ints (Rc.mInts k i))):=by
        rw [List.drop_eq_nil_of_le (by rw [HN.out];exact Nat.le_refl _),List.append_nil] at hown;exact hown
      clear hown
      go_wp2_with fail
      go_ret
      exact ⟨rfl,HEND.out,hfr⟩
theorem Rc.insCs_len (l:List Cd.Ins):(Rc.insCs l).length=l.length * 4:=by
  induction l with
  | nil=>rfl
  | cons a l ih=>rw [Rc.insCs,List.flatMap_cons,List.length_append,← Rc.insCs,ih,List.length_cons];simp [Cd.insC];omega
theorem Rc.irow_at {a b:List Cd.Ins} {x:Cd.Ins} {i:Nat} (hi:a.length=i) (j:Nat) (hj:j < 4) (v:Value) (x':Cd.Ins) (e:(Cd.insC x).set j v=Cd.insC x'):(Rc.insCs (a++x::b)).set (i * 4+j) v=Rc.insCs (a++x'::b):=by
  have c:∀ y:Cd.Ins,Rc.insCs (a++y::b)=Rc.insCs a++(Cd.insC y++Rc.insCs b):=fun y=>by rw [Rc.insCs_app];rfl
  rw [c,c,List.set_append_right _ _ (by rw [Rc.insCs_len];omega),Rc.insCs_len,hi,show i * 4+j - i * 4=j by omega,List.set_append_left _ _ (by simp [Cd.insC];omega),e]
set_option maxRecDepth 100000 in
set_option maxHeartbeats 1000000 in
theorem Rc.markInsS_any (A:Nat) (l:List Cd.Ins) (a:Option Addr) (cap:Nat) (k:Int) (h1:1≤k) (h2:k≤10000000000000) (hl:l.length≤1048576) (w:World) (ho:w.ownsRow A 54 4 (.slice a l.length cap) l.length (Rc.insCs l)) :
    Calls Tryz.prog 30 #[.slice a l.length cap,.int .i64 k] w fun e w'=>e = .returned (.int .i64 (k+4 * (l.length:Int)))∧w'.ownsRow A 54 4 (.slice a l.length cap) l.length (Rc.insCs (Rc.mInss k l.length))∧Rc.Fr (fun j=>(Value.slice a l.length cap).ownBlock=some j) w w':=by
  have HO:Hid (w.ownsRow A 54 4 (.slice a l.length cap) l.length (Rc.insCs l)):=ho
  obtain ⟨n,HN⟩:∃ n,Hid (l.length=n):=⟨_,(rfl:l.length=_)⟩
  clear ho
  rw [HN.out] at HO hl ⊢
  go_enter Tryz.func30,Tryz.ntmps30
  go_wp2_with fail
  go_loopw [1,5] (fun q t wr => ∃ (i:Nat),i≤n∧t = .int .i64 (i:Int)∧q = .int .i64 (k+4 * (i:Int))∧wr.ownsRow A 54 4 (.slice a n cap) n (Rc.insCs (Rc.mInss k i++l.drop i))∧Rc.Fr (fun j=>(Value.slice a n cap).ownBlock=some j) w wr) (fun _ t _=>n - (intOf t).toNat)
  case atStart=>exact ⟨0,by omega,rfl,by simp,HO.out,Rc.Fr.refl _ _⟩
  case round =>
    obtain ⟨i,hi,rfl,rfl,hown,hfr⟩:=hrel
    by_cases hlt:i < n
    · have hltI:(i:Int) < (n:Int):=by omega
      obtain ⟨p,e1,e2⟩:=Rc.own_ptr hown (by omega)
      subst e1
      have hll:i < l.length:=by rw [HN.out];exact hlt
      rw [List.drop_eq_getElem_cons hll] at hown
      obtain ⟨x,HX⟩:∃ x,Hid (l[i]=x):=⟨_,(rfl:l[i]=_)⟩
      rw [HX.out] at hown
      obtain ⟨K,HK⟩:∃ K,Hid (k+4 * (i:Int)=K):=⟨_,(rfl:_=_)⟩
      have hK:1≤K∧K≤20000000000000:=by have:=HK.out;omega
      have ml:=Rc.mInss_len k i
      have o1:=Rc.own_store hown e2 (i * 4+0) (.int .i64 K)
      rw [Rc.irow_at (x:=x) ml 0 (by omega) (.int .i64 K) ⟨K,x.a,x.n,x.text⟩ rfl] at o1
      have o2:=Rc.own_store o1 e2 (i * 4+1) (.int .i64 (K+1))
      rw [Rc.irow_at (x:=⟨K,x.a,x.n,x.text⟩) ml 1 (by omega) (.int .i64 (K+1)) ⟨K,K+1,x.n,x.text⟩ rfl] at o2
      have o3:=Rc.own_store o2 e2 (i * 4+2) (.int .i64 (K+1+1))
      rw [Rc.irow_at (x:=⟨K,K+1,x.n,x.text⟩) ml 2 (by omega) (.int .i64 (K+1+1)) ⟨K,K+1,K+1+1,x.text⟩ rfl] at o3
      obtain ⟨⟨y0,k0⟩,f0⟩:=Rc.own_there hown e2 (i * 4) (by omega)
      obtain ⟨⟨y1,k1⟩,f1⟩:=Rc.own_there hown e2 (i * 4+1) (by omega)
      obtain ⟨⟨y2,k2⟩,f2⟩:=Rc.own_there hown e2 (i * 4+2) (by omega)
      have HO3:Hid ((((wr.setCell ⟨p,i * 4,none⟩ (.int .i64 K)).setCell ⟨p,i * 4+1,none⟩ (.int .i64 (K+1))).setCell ⟨p,i * 4+2,none⟩ (.int .i64 (K+1+1))).ownsRow A 54 4 (.slice (some ⟨p,0,none⟩) n cap) n (Rc.insCs (Rc.mInss k i++⟨K,K+1,K+1+1,x.text⟩::l.drop (i+1)))):=o3
      have HF3:Hid (Rc.Fr (fun j=>(Value.slice (some ⟨p,0,none⟩) n cap).ownBlock=some j) w (((wr.setCell ⟨p,i * 4,none⟩ (.int .i64 K)).setCell ⟨p,i * 4+1,none⟩ (.int .i64 (K+1))).setCell ⟨p,i * 4+2,none⟩ (.int .i64 (K+1+1)))):=((hfr.trans (Rc.Fr.set _ p _ _ e2)).trans (Rc.Fr.set _ p _ _ e2)).trans (Rc.Fr.set _ p _ _ e2)
      have HE2:Hid ((Value.slice (some ⟨p,0,none⟩) n cap).ownBlock=some p):=e2
      rw [HK.out]
      clear hown hfr o1 o2 o3 e2
      go_wp2_with (go_at_call 28;refine (Cd.markText_any _ _ (by omega) (by omega)).mono ?_;rintro e w1 ⟨rfl,hb1⟩;have o4:=Rc.own_keep HO3.out (fun k _ _ hk=>hb1.block k hk);obtain ⟨⟨y3,k3⟩,f3⟩:=Rc.own_there o4 HE2.out (i * 4+3) (by omega);have o5:=Rc.own_store o4 HE2.out (i * 4+3) (.string (Cd.mark (K+1+1+1)));rw [Rc.irow_at (x:=⟨K,K+1,K+1+1,x.text⟩) ml 3 (by omega) (.string (Cd.mark (K+1+1+1))) (Rc.mOne K) rfl] at o5;have HO5:Hid ((w1.setCell ⟨p,i * 4+3,none⟩ (.string (Cd.mark (K+1+1+1)))).ownsRow A 54 4 (.slice (some ⟨p,0,none⟩) n cap) n (Rc.insCs (Rc.mInss k (i+1)++l.drop (i+1)))):=(by rw [Hid,Rc.mInss_succ,HK.out,List.append_assoc];exact o5);have HF5:Hid (Rc.Fr (fun j=>(Value.slice (some ⟨p,0,none⟩) n cap).ownBlock=some j) w (w1.setCell ⟨p,i * 4+3,none⟩ (.string (Cd.mark (K+1+1+1))))):=(HF3.out.trans (Rc.Fr.of_below hb1)).trans (Rc.Fr.set _ p _ _ HE2.out);clear o4 o5 hb1)
      go_roundw
      case rel =>
        refine ⟨i+1,by omega,by go_num, ?_,HO5.out,HF5.out⟩
        rw [show k+4 * ((i+1:Nat):Int)=K+1+1+1+1 by have:=HK.out;omega]
      case measure=>simp [intOf];omega
    · have hltI:¬ (i:Int) < (n:Int):=by omega
      have hin:i=n:=by omega
      subst hin
      have HEND:Hid (wr.ownsRow A 54 4 (.slice a i cap) i (Rc.insCs (Rc.mInss k i))):=by
        rw [List.drop_eq_nil_of_le (by rw [HN.out];exact Nat.le_refl _),List.append_nil] at hown;exact hown
      clear hown
      go_wp2_with fail
      go_ret
      exact ⟨rfl,HEND.out,hfr⟩
end Go.Proofs.YtbkhedpabfanoaaGreatDoor
namespace Go.Proofs.YtbkhedpabfanoaaGreatDoor
open Go.RowKit

def Rc.mEn (k:Int) (e:Rc.En):Rc.En:=⟨⟨Cd.mark k,Rc.mInts (k+1) e.f.params.length,k+1+(e.f.params.length:Int),k+1+(e.f.params.length:Int)+1,Rc.mInss (k+1+(e.f.params.length:Int)+1+1) e.f.ins.length⟩,e.p,e.i⟩
def Rc.nx (k:Int) (e:Rc.En):Int:=k+1+(e.f.params.length:Int)+1+1+4 * (e.f.ins.length:Int)
def Rc.mks : Int→List Rc.En→List Rc.En
  | _,[]=>[]
  | k,e::r=>Rc.mEn k e::Rc.mks (Rc.nx k e) r
def Rc.tot : Int→List Rc.En→Int
  | k,[]=>k
  | k,e::r=>Rc.tot (Rc.nx k e) r
theorem Rc.mks_len : ∀ (k:Int) (E:List Rc.En),(Rc.mks k E).length=E.length
  | _,[]=>rfl
  | k,e::r=>by rw [Rc.mks,List.length_cons,List.length_cons,Rc.mks_len (Rc.nx k e) r]
theorem Rc.mks_snoc : ∀ (k:Int) (E:List Rc.En) (e:Rc.En),Rc.mks k (E++[e])=Rc.mks k E++[Rc.mEn (Rc.tot k E) e]∧Rc.tot k (E++[e])=Rc.nx (Rc.tot k E) e
  | k,[],e=>⟨rfl,rfl⟩
  | k,a::r,e=>by
    have h:=Rc.mks_snoc (Rc.nx k a) r e
    exact ⟨by rw [List.cons_append,Rc.mks,h.1];rfl,by rw [List.cons_append,Rc.tot,h.2];rfl⟩
theorem Rc.take_snoc {E:List Rc.En} {i:Nat} (hi:i < E.length):E.take (i+1)=E.take i++[E[i]]:=by rw [List.take_add_one,List.getElem?_eq_getElem hi];rfl
def Rc.small (E:List Rc.En):Prop:=E.length≤60∧∀ e ∈ E,e.f.params.length≤8∧e.f.ins.length≤50000
theorem Rc.tot_bd : ∀ (E:List Rc.En) (k:Int),(∀ e ∈ E,e.f.params.length≤8∧e.f.ins.length≤50000)→k≤Rc.tot k E∧Rc.tot k E≤k+300000 * (E.length:Int)
  | [],k,_=>by simp [Rc.tot]
  | e::r,k,h=>by
    have h1:=h e (by simp)
    have h2:=Rc.tot_bd r (Rc.nx k e) (fun x hx=>h x (by simp [hx]))
    rw [Rc.tot,List.length_cons]
    unfold Rc.nx at h2 ⊢
    omega
theorem Rc.small.at {E:List Rc.En} (h:Rc.small E) (i:Nat):1≤Rc.tot 1 (E.take i)∧Rc.tot 1 (E.take i)≤100000000:=by
  have h1:=Rc.tot_bd (E.take i) 1 (fun e he=>h.2 e (List.mem_of_mem_take he))
  have h2:(E.take i).length≤60:=by rw [List.length_take];have:=h.1;omega
  omega
theorem Rc.half_len (E:List Rc.En) (i:Nat):(Rc.mks 1 (E.take i)++E.drop i).length=E.length:=by rw [List.length_append,Rc.mks_len,List.length_take,List.length_drop];omega
theorem Rc.half_at {E:List Rc.En} {i:Nat} (hi:i < E.length):(Rc.mks 1 (E.take i)++E.drop i)[i]'(by rw [Rc.half_len];exact hi)=E[i]:=by
  have hl:(Rc.mks 1 (E.take i)).length=i:=by rw [Rc.mks_len,List.length_take];omega
  rw [List.getElem_append_right (by omega)]
  simp [hl]
theorem Rc.half_next {E:List Rc.En} {i:Nat} (hi:i < E.length):(Rc.mks 1 (E.take i)++E.drop i).set i (Rc.mEn (Rc.tot 1 (E.take i)) E[i])=Rc.mks 1 (E.take (i+1))++E.drop (i+1):=by
  have hl:(Rc.mks 1 (E.take i)).length=i:=by rw [Rc.mks_len,List.length_take];omega
  rw [Rc.take_snoc hi,(Rc.mks_snoc 1 (E.take i) E[i]).1,List.drop_eq_getElem_cons hi,List.set_append_right _ _ (by omega),hl,Nat.sub_self,List.set_cons_zero,List.append_assoc];rfl
theorem Rc.tot_next {E:List Rc.En} {i:Nat} (hi:i < E.length):Rc.tot 1 (E.take (i+1))=Rc.nx (Rc.tot 1 (E.take i)) E[i]:=by rw [Rc.take_snoc hi,(Rc.mks_snoc 1 (E.take i) E[i]).2]
theorem Rc.mem_set {E:List Rc.En} {i:Nat} {e' e:Rc.En} (h:e ∈ E.set i e'):e ∈ E∨e=e':=List.mem_or_eq_of_mem_set h
theorem Rc.enCs_set : ∀ (E:List Rc.En) (i:Nat) (hi:i < E.length) (j:Nat) (x:Value) (e':Rc.En),j < 5→(Rc.enC E[i]).set j x=Rc.enC e'→(Rc.enCs E).set (i * 5+j) x=Rc.enCs (E.set i e')
  | [],i,hi,_,_,_,_,_=>by simp at hi
  | a::r,0,_,j,x,e',hj,h=>by
    have h':(Rc.enC a).set j x=Rc.enC e':=h
    rw [List.set_cons_zero,Rc.enCs,List.flatMap_cons,Nat.zero_mul,Nat.zero_add,List.set_append_left _ _ (by exact hj),h'];rfl
  | a::r,i+1,hi,j,x,e',hj,h=>by
    have ih:=Rc.enCs_set r i (by simpa using hi) j x e' hj h
    have hl:(Rc.enC a).length=5:=rfl
    rw [List.set_cons_succ,Rc.enCs,List.flatMap_cons,List.set_append_right _ _ (by rw [hl];omega),hl,show (i+1) * 5+j - 5=i * 5+j by omega]
    rw [Rc.enCs] at ih
    rw [ih];rfl
theorem Rc.apart_set {E:List Rc.En} {i:Nat} (hi:i < E.length) {e':Rc.En} (hp:e'.p=E[i].p) (hq:e'.i=E[i].i) (h:E.Pairwise (fun a b=>(∀ k,a.p.ownBlock=some k→b.p.ownBlock≠some k)∧(∀ k,a.i.ownBlock=some k→b.i.ownBlock≠some k))):(E.set i e').Pairwise (fun a b=>(∀ k,a.p.ownBlock=some k→b.p.ownBlock≠some k)∧(∀ k,a.i.ownBlock=some k→b.i.ownBlock≠some k)):=by
  rw [List.pairwise_iff_getElem] at h ⊢
  have hpq:∀ u (hu:u < (E.set i e').length),((E.set i e')[u].p=(E[u]'(by simpa using hu)).p∧(E.set i e')[u].i=(E[u]'(by simpa using hu)).i):=fun u hu=>by
    rw [List.getElem_set]
    by_cases e:i=u
    · subst e;rw [if_pos rfl];exact ⟨hp,hq⟩
    · rw [if_neg e];exact ⟨rfl,rfl⟩
  intro a b ha hb hab
  rw [(hpq a ha).1,(hpq a ha).2,(hpq b hb).1,(hpq b hb).2]
  exact h a b (by simpa using ha) (by simpa using hb) hab
theorem Rc.Own.cell {A:Nat} {w:World} {v:Value} {E:List Rc.En} (h:Rc.Own A w v E) {i:Nat} (hi:i < E.length) {g:Nat} (hg:v.ownBlock=some g) (j:Nat) (hj:j < 5) (x:Value) (e':Rc.En) (hc:(Rc.enC E[i]).set j x=Rc.enC e') (hp:e'.p=E[i].p) (hq:e'.i=E[i].i) (hps:e'.f.params=E[i].f.params) (his:e'.f.ins=E[i].f.ins):Rc.Own A (w.setCell ⟨g,i * 5+j,none⟩ x) v (E.set i e'):=by
  obtain ⟨-,cur,hcur⟩:=Rc.row_type h.row hg
  refine ⟨?_,fun e he => ?_,fun e he => ?_,Rc.apart_set hi hp hq h.apart⟩
  · rw [List.length_set,← Rc.enCs_set E i hi j x e' hj hc]
    exact Rc.own_store h.row hg _ _
  · rcases Rc.mem_set he with h1 | rfl
    · exact Rc.own_set (h.par e h1) hcur (by decide)
    · rw [hp,hps];exact Rc.own_set (h.par _ (List.getElem_mem hi)) hcur (by decide)
  · rcases Rc.mem_set he with h1 | rfl
    · exact Rc.own_set (h.ins e h1) hcur (by decide)
    · rw [hq,his];exact Rc.own_set (h.ins _ (List.getElem_mem hi)) hcur (by decide)
theorem Rc.enCs_same {E:List Rc.En} {i:Nat} (hi:i < E.length) {e':Rc.En} (hc:Rc.enC e'=Rc.enC E[i]):Rc.enCs (E.set i e')=Rc.enCs E:=by
  have e1:Rc.enC E[i]=(E.map Rc.enC)[i]'(by simpa using hi):=by simp
  rw [Rc.enCs,Rc.enCs,List.flatMap_def,List.flatMap_def,List.map_set,hc,e1,List.set_getElem_self]
theorem Rc.Own.parR {A:Nat} {w w':World} {v:Value} {E:List Rc.En} (h:Rc.Own A w v E) {i:Nat} (hi:i < E.length) (e':Rc.En) (hc:Rc.enC e'=Rc.enC E[i]) (hp:e'.p=E[i].p) (hq:e'.i=E[i].i) (his:e'.f.ins=E[i].f.ins) (hf:Rc.Fr (fun j=>E[i].p.ownBlock=some j) w w') (hn:w'.ownsRow A 3 1 e'.p e'.f.params.length (Cd.ints e'.f.params)):Rc.Own A w' v (E.set i e'):=by
  have hP:=h.par _ (List.getElem_mem hi)
  have keep:∀ {e size n:Nat} {u:Value} {xs:List Value},w.ownsRow A e size u n xs→e≠3→w'.ownsRow A e size u n xs:=fun hu hne=>Rc.own_keep hu (fun k hk _ h2=>hf.keep k h2 (fun h3=>by
    obtain ⟨-,c1,q1⟩:=Rc.row_type hu hk
    obtain ⟨-,c2,q2⟩:=Rc.row_type hP h3
    rw [q1] at q2;injection q2 with q2;injection q2 with _ q2;exact hne q2))
  refine ⟨?_,fun e he => ?_,fun e he => ?_,Rc.apart_set hi hp hq h.apart⟩
  · rw [List.length_set,Rc.enCs_same hi hc];exact keep h.row (by decide)
  · obtain ⟨u,hu,rfl⟩:=List.getElem_of_mem he
    have hu':u < E.length:=by simpa using hu
    rw [List.getElem_set]
    by_cases e:i=u
    · rw [if_pos e];exact hn
    · rw [if_neg e]
      refine Rc.own_keep (h.par _ (List.getElem_mem hu')) (fun k hk _ h2=>hf.keep k h2 (fun h3 => ?_))
      have ha:=List.pairwise_iff_getElem.1 h.apart
      rcases Nat.lt_or_gt_of_ne e with h4 | h4
      · exact (ha i u hi hu' h4).1 k h3 hk
      · exact (ha u i hu' hi h4).1 k hk h3
  · rcases Rc.mem_set he with h1 | rfl
    · exact keep (h.ins e h1) (by decide)
    · rw [hq,his];exact keep (h.ins _ (List.getElem_mem hi)) (by decide)
theorem Rc.Own.insR {A:Nat} {w w':World} {v:Value} {E:List Rc.En} (h:Rc.Own A w v E) {i:Nat} (hi:i < E.length) (e':Rc.En) (hc:Rc.enC e'=Rc.enC E[i]) (hp:e'.p=E[i].p) (hq:e'.i=E[i].i) (hps:e'.f.params=E[i].f.params) (hf:Rc.Fr (fun j=>E[i].i.ownBlock=some j) w w') (hn:w'.ownsRow A 54 4 e'.i e'.f.ins.length (Rc.insCs e'.f.ins)):Rc.Own A w' v (E.set i e'):=by
  have hP:=h.ins _ (List.getElem_mem hi)
  have keep:∀ {e size n:Nat} {u:Value} {xs:List Value},w.ownsRow A e size u n xs→e≠54→w'.ownsRow A e size u n xs:=fun hu hne=>Rc.own_keep hu (fun k hk _ h2=>hf.keep k h2 (fun h3=>by
    obtain ⟨-,c1,q1⟩:=Rc.row_type hu hk
    obtain ⟨-,c2,q2⟩:=Rc.row_type hP h3
    rw [q1] at q2;injection q2 with q2;injection q2 with _ q2;exact hne q2))
  refine ⟨?_,fun e he => ?_,fun e he => ?_,Rc.apart_set hi hp hq h.apart⟩
  · rw [List.length_set,Rc.enCs_same hi hc];exact keep h.row (by decide)
  · rcases Rc.mem_set he with h1 | rfl
    · exact keep (h.par e h1) (by decide)
    · rw [hp,hps];exact keep (h.par _ (List.getElem_mem hi)) (by decide)
  · obtain ⟨u,hu,rfl⟩:=List.getElem_of_mem he
    have hu':u < E.length:=by simpa using hu
    rw [List.getElem_set]
    by_cases e:i=u
    · rw [if_pos e];exact hn
    · rw [if_neg e]
      refine Rc.own_keep (h.ins _ (List.getElem_mem hu')) (fun k hk _ h2=>hf.keep k h2 (fun h3 => ?_))
      have ha:=List.pairwise_iff_getElem.1 h.apart
      rcases Nat.lt_or_gt_of_ne e with h4 | h4
      · exact (ha i u hi hu' h4).2 k h3 hk
      · exact (ha u i hu' hi h4).2 k hk h3
theorem Rc.Own.five {A:Nat} {w:World} {v:Value} {E:List Rc.En} (h:Rc.Own A w v E) {i:Nat} (hi:i < E.length) {g:Nat} (hg:v.ownBlock=some g):(w.cell? ⟨g,i * 5,none⟩=some (.string E[i].f.name)∧w.cell? ⟨g,i * 5+1,none⟩=some E[i].p∧w.cell? ⟨g,i * 5+2,none⟩=some (.int .i64 E[i].f.result)∧w.cell? ⟨g,i * 5+3,none⟩=some (.int .i64 E[i].f.slots)∧w.cell? ⟨g,i * 5+4,none⟩=some E[i].i)∧(w.frozen? ⟨g,i * 5,none⟩=false∧w.frozen? ⟨g,i * 5+2,none⟩=false∧w.frozen? ⟨g,i * 5+3,none⟩=false):=by
  have hc:∀ j u,j < 5→(Rc.enC E[i])[j]? = some u→w.cell? ⟨g,i * 5+j,none⟩=some u:=fun j u hj hu=>Rc.own_cells h.row hg _ _ ((Rc.flat_at Rc.enC 5 (fun _=>rfl) E i hi j hj).trans hu)
  obtain ⟨-,cur,hcur⟩:=Rc.row_type h.row hg
  have hf:∀ j,w.frozen? ⟨g,j,none⟩=false:=fun j=>by simp [World.frozen?,hcur]
  exact ⟨⟨hc 0 _ (by omega) rfl,hc 1 _ (by omega) rfl,hc 2 _ (by omega) rfl,hc 3 _ (by omega) rfl,hc 4 _ (by omega) rfl⟩,hf _,hf _,hf _⟩
end Go.Proofs.YtbkhedpabfanoaaGreatDoor
namespace Go.Proofs.YtbkhedpabfanoaaGreatDoor
open Go.RowKit

def Rc.Rows (v:Value) (E:List Rc.En) (j:Nat):Prop:=v.ownBlock=some j∨∃ e ∈ E,e.p.ownBlock=some j∨e.i.ownBlock=some j
theorem Rc.Own.rows {A:Nat} {w:World} {v:Value} {E:List Rc.En} (h:Rc.Own A w v E) {j:Nat} (hj:Rc.Rows v E j):A≤j∧j < w.heap.size:=by
  rcases hj with hj | ⟨e,he,hj | hj⟩
  · exact (Rc.row_type h.row hj).1
  · exact (Rc.row_type (h.par e he) hj).1
  · exact (Rc.row_type (h.ins e he) hj).1
theorem Rc.Fr.wide {S R:Nat→Prop} {a b c:World} (h:Rc.Fr R a b) (k:Rc.Fr S b c) (hs:∀ j,S j→R j):Rc.Fr R a c:=h.trans (k.mono hs)
set_option maxRecDepth 100000 in
set_option maxHeartbeats 4000000 in
theorem Rc.markFnS_any (A:Nat) (E:List Rc.En) (a:Option Addr) (cap:Nat) (hS:Rc.small E) (w:World) (ho:Rc.Own A w (.slice a E.length cap) E) :
    Calls Tryz.prog 15 #[.slice a E.length cap,.int .i64 1] w fun e w'=>e = .returned (.int .i64 (Rc.tot 1 E))∧Rc.Own A w' (.slice a E.length cap) (Rc.mks 1 E)∧Rc.Fr (Rc.Rows (.slice a E.length cap) E) w w':=by
  have HO:Hid (Rc.Own A w (.slice a E.length cap) E):=ho
  obtain ⟨n,HN⟩:∃ n,Hid (E.length=n):=⟨_,(rfl:E.length=_)⟩
  clear ho
  have hn:n≤60:=by rw [← HN.out];exact hS.1
  rw [HN.out] at HO ⊢
  go_enter Tryz.func15,Tryz.ntmps15
  go_wp2_with fail
  go_loopw [1,5] (fun q t wr => ∃ (i:Nat),i≤n∧t = .int .i64 (i:Int)∧q = .int .i64 (Rc.tot 1 (E.take i))∧Rc.Own A wr (.slice a n cap) (Rc.mks 1 (E.take i)++E.drop i)∧Rc.Fr (Rc.Rows (.slice a n cap) E) w wr) (fun _ t _=>n - (intOf t).toNat)
  case atStart=>exact ⟨0,by omega,rfl,rfl,HO.out,Rc.Fr.refl _ _⟩
  case round =>
    obtain ⟨i,hi,rfl,rfl,hown,hfr⟩:=hrel
    by_cases hlt:i < n
    · have hltI:(i:Int) < (n:Int):=by omega
      have hE:i < E.length:=by rw [HN.out];exact hlt
      obtain ⟨g,e1,e2⟩:=Rc.own_ptr hown.row (by rw [Rc.half_len];omega)
      subst e1
      obtain ⟨K,HK⟩:∃ K,Hid (Rc.tot 1 (E.take i)=K):=⟨_,(rfl:_=_)⟩
      have hK:1≤K∧K≤100000000:=by rw [← HK.out];exact hS.at i
      have HNX:Hid (Rc.tot 1 (E.take (i+1))=Rc.nx K E[i]):=by rw [Hid,Rc.tot_next hE,HK.out]
      have HHN:Hid ((Rc.mks 1 (E.take i)++E.drop i).set i (Rc.mEn K E[i])=Rc.mks 1 (E.take (i+1))++E.drop (i+1)):=by rw [Hid,← HK.out];exact Rc.half_next hE
      have hmem:=hS.2 _ (List.getElem_mem hE)
      obtain ⟨L,HL⟩:∃ L,Hid (Rc.mks 1 (E.take i)++E.drop i=L):=⟨_,(rfl:_=_)⟩
      have hLl:i < L.length:=by rw [← HL.out,Rc.half_len];exact hE
      have hLi:L[i]=E[i]:=by
        have:=Rc.half_at hE
        simp only [HL.out] at this
        exact this
      rw [HL.out] at hown HHN
      obtain ⟨⟨⟨fn,fp,fr,fs,fi⟩,pv,iv⟩,HE⟩:∃ e,Hid (E[i]=e):=⟨_,(rfl:E[i]=_)⟩
      rw [HE.out] at hLi hmem HNX HHN
      simp only at hmem
      have hpr:=hown.par _ (List.getElem_mem hLl)
      have hir:=hown.ins _ (List.getElem_mem hLl)
      rw [hLi] at hpr hir
      simp only at hpr hir
      obtain ⟨pa,pc,hpv⟩:=Cd.rowLen hpr
      obtain ⟨ia,ic,hiv⟩:=Cd.rowLen hir
      subst hpv
      subst hiv
      obtain ⟨np,HNP⟩:∃ np,Hid (fp.length=np):=⟨_,(rfl:fp.length=_)⟩
      obtain ⟨nq,HNQ⟩:∃ nq,Hid (fi.length=nq):=⟨_,(rfl:fi.length=_)⟩
      have HG:Hid ((Value.slice (some ⟨g,0,none⟩) n cap).ownBlock=some g):=e2
      have HAG:Hid (Rc.Rows (.slice (some ⟨g,0,none⟩) n cap) E g):=.inl e2
      have HMM:Hid ((⟨⟨fn,fp,fr,fs,fi⟩,.slice pa fp.length pc,.slice ia fi.length ic⟩:Rc.En) ∈ E):=by rw [Hid,← HE.out];exact List.getElem_mem hE
      -- the states between
      have S1:Hid (∀ U,Rc.Own A U (.slice (some ⟨g,0,none⟩) n cap) L→Rc.Own A (U.setCell ⟨g,i * 5,none⟩ (.string (Cd.mark K))) (.slice (some ⟨g,0,none⟩) n cap) (L.set i ⟨⟨Cd.mark K,fp,fr,fs,fi⟩,.slice pa fp.length pc,.slice ia fi.length ic⟩)):=fun U h=>h.cell hLl HG.out 0 (by omega) _ _ (by rw [hLi];rfl) (by rw [hLi]) (by rw [hLi]) (by rw [hLi]) (by rw [hLi])
      have AT:∀ x:Rc.En,(L.set i x)[i]'(by rw [List.length_set];exact hLl)=x:=fun x=>by rw [List.getElem_set_self]
      have S2:Hid (∀ U U',Rc.Own A U (.slice (some ⟨g,0,none⟩) n cap) (L.set i ⟨⟨Cd.mark K,fp,fr,fs,fi⟩,.slice pa fp.length pc,.slice ia fi.length ic⟩)→U'.ownsRow A 3 1 (.slice pa fp.length pc) fp.length (Cd.ints (Rc.mInts (K+1) fp.length))→Rc.Fr (fun j=>(Value.slice pa fp.length pc).ownBlock=some j) U U'→Rc.Own A U' (.slice (some ⟨g,0,none⟩) n cap) (L.set i ⟨⟨Cd.mark K,Rc.mInts (K+1) fp.length,fr,fs,fi⟩,.slice pa fp.length pc,.slice ia fi.length ic⟩)):=fun U U' h hr hf=>by
        have:=h.parR (i:=i) (by rw [List.length_set];exact hLl) ⟨⟨Cd.mark K,Rc.mInts (K+1) fp.length,fr,fs,fi⟩,.slice pa fp.length pc,.slice ia fi.length ic⟩ (by rw [AT];rfl) (by rw [AT]) (by rw [AT]) (by rw [AT]) (by rw [AT];exact hf) (by simp only [Rc.mInts_len];exact hr)
        rw [List.set_set] at this
        exact this
      have S3:Hid (∀ U,Rc.Own A U (.slice (some ⟨g,0,none⟩) n cap) (L.set i ⟨⟨Cd.mark K,Rc.mInts (K+1) fp.length,fr,fs,fi⟩,.slice pa fp.length pc,.slice ia fi.length ic⟩)→Rc.Own A ((U.setCell ⟨g,i * 5+2,none⟩ (.int .i64 (K+1+(fp.length:Int)))).setCell ⟨g,i * 5+3,none⟩ (.int .i64 (K+1+(fp.length:Int)+1))) (.slice (some ⟨g,0,none⟩) n cap) (L.set i ⟨⟨Cd.mark K,Rc.mInts (K+1) fp.length,K+1+(fp.length:Int),K+1+(fp.length:Int)+1,fi⟩,.slice pa fp.length pc,.slice ia fi.length ic⟩)):=fun U h=>by
        have h3:=h.cell (i:=i) (by rw [List.length_set];exact hLl) HG.out 2 (by omega) (.int .i64 (K+1+(fp.length:Int))) ⟨⟨Cd.mark K,Rc.mInts (K+1) fp.length,K+1+(fp.length:Int),fs,fi⟩,.slice pa fp.length pc,.slice ia fi.length ic⟩ (by rw [AT];rfl) (by rw [AT]) (by rw [AT]) (by rw [AT]) (by rw [AT])
        rw [List.set_set] at h3
        have h4:=h3.cell (i:=i) (by rw [List.length_set];exact hLl) HG.out 3 (by omega) (.int .i64 (K+1+(fp.length:Int)+1)) ⟨⟨Cd.mark K,Rc.mInts (K+1) fp.length,K+1+(fp.length:Int),K+1+(fp.length:Int)+1,fi⟩,.slice pa fp.length pc,.slice ia fi.length ic⟩ (by rw [AT];rfl) (by rw [AT]) (by rw [AT]) (by rw [AT]) (by rw [AT])
        rw [List.set_set] at h4
        exact h4
      have S4:Hid (∀ U U',Rc.Own A U (.slice (some ⟨g,0,none⟩) n cap) (L.set i ⟨⟨Cd.mark K,Rc.mInts (K+1) fp.length,K+1+(fp.length:Int),K+1+(fp.length:Int)+1,fi⟩,.slice pa fp.length pc,.slice ia fi.length ic⟩)→U'.ownsRow A 54 4 (.slice ia fi.length ic) fi.length (Rc.insCs (Rc.mInss (K+1+(fp.length:Int)+1+1) fi.length))→Rc.Fr (fun j=>(Value.slice ia fi.length ic).ownBlock=some j) U U'→Rc.Own A U' (.slice (some ⟨g,0,none⟩) n cap) (Rc.mks 1 (E.take (i+1))++E.drop (i+1))):=fun U U' h hr hf=>by
        have:=h.insR (i:=i) (by rw [List.length_set];exact hLl) (Rc.mEn K ⟨⟨fn,fp,fr,fs,fi⟩,.slice pa fp.length pc,.slice ia fi.length ic⟩) (by rw [AT];rfl) (by rw [AT];rfl) (by rw [AT];rfl) (by rw [AT];rfl) (by rw [AT];exact hf) (by simp only [Rc.mEn,Rc.mInss_len];exact hr)
        rw [List.set_set,HHN.out] at this
        exact this
      have HIN:Hid (∀ U x,Rc.Own A U (.slice (some ⟨g,0,none⟩) n cap) (L.set i x)→(U.cell? ⟨g,i * 5+1,none⟩=some x.p∧U.cell? ⟨g,i * 5+2,none⟩=some (.int .i64 x.f.result)∧U.cell? ⟨g,i * 5+3,none⟩=some (.int .i64 x.f.slots)∧U.cell? ⟨g,i * 5+4,none⟩=some x.i∧U.frozen? ⟨g,i * 5+2,none⟩=false∧U.frozen? ⟨g,i * 5+3,none⟩=false)∧U.ownsRow A 3 1 x.p x.f.params.length (Cd.ints x.f.params)∧U.ownsRow A 54 4 x.i x.f.ins.length (Rc.insCs x.f.ins)):=fun U x h=>by
        obtain ⟨⟨-,c1,c2,c3,c4⟩,-,f2,f3⟩:=h.five (i:=i) (by rw [List.length_set];exact hLl) HG.out
        rw [AT] at c1 c2 c3 c4
        have hm:x ∈ L.set i x:=by
          have:=List.getElem_mem (l:=L.set i x) (n:=i) (by rw [List.length_set];exact hLl)
          rwa [AT] at this
        exact ⟨⟨c1,c2,c3,c4,f2,f3⟩,h.par x hm,h.ins x hm⟩
      have HOW:Hid (Rc.Own A wr (.slice (some ⟨g,0,none⟩) n cap) L):=hown
      have HFW:Hid (Rc.Fr (Rc.Rows (.slice (some ⟨g,0,none⟩) n cap) E) w wr):=hfr
      obtain ⟨⟨x0,-⟩,y0,-⟩:=hown.five hLl e2
      rw [HK.out]
      clear hown hfr hLi hpr hir AT e2 HE HL
      go_wp2_with (first
        | (go_at_call 28;refine (Cd.markText_any _ _ (by omega) (by omega)).mono ?_;rintro e w1 ⟨rfl,hb1⟩;have HO1:Hid (Rc.Own A (w1.setCell ⟨g,i * 5,none⟩ (.string (Cd.mark K))) (.slice (some ⟨g,0,none⟩) n cap) (L.set i ⟨⟨Cd.mark K,fp,fr,fs,fi⟩,.slice pa fp.length pc,.slice ia fi.length ic⟩)):=S1.out w1 (HOW.out.below hb1);have HF1:Hid (Rc.Fr (Rc.Rows (.slice (some ⟨g,0,none⟩) n cap) E) w (w1.setCell ⟨g,i * 5,none⟩ (.string (Cd.mark K)))):=(HFW.out.trans (Rc.Fr.of_below hb1)).trans (Rc.Fr.set _ _ _ _ HAG.out);have z0:=(HOW.out.below hb1).five hLl HG.out;have z1:=z0.1.1;have z2:=z0.2.1;have z3:=(HIN.out _ _ HO1.out).1.1;(try simp only at z3);clear z0 hb1)
        | (go_at_call 29;refine (Rc.markIntS_any A fp pa pc (K+1) (by omega) (by omega) (by omega) _ (HIN.out _ _ HO1.out).2.1).mono ?_;rintro e w2 ⟨rfl,hr2,hf2⟩;have HO2:Hid (Rc.Own A w2 (.slice (some ⟨g,0,none⟩) n cap) (L.set i ⟨⟨Cd.mark K,Rc.mInts (K+1) fp.length,fr,fs,fi⟩,.slice pa fp.length pc,.slice ia fi.length ic⟩)):=S2.out _ w2 HO1.out hr2 hf2;have HF2:Hid (Rc.Fr (Rc.Rows (.slice (some ⟨g,0,none⟩) n cap) E) w w2):=HF1.out.wide hf2 (fun j hj => .inr ⟨_,HMM.out,.inl hj⟩);obtain ⟨-,b2,b3,b4,g2,g3⟩:=(HIN.out _ _ HO2.out).1;(try simp only at b2 b3 b4);have HO3:Hid (Rc.Own A ((w2.setCell ⟨g,i * 5+2,none⟩ (.int .i64 (K+1+(fp.length:Int)))).setCell ⟨g,i * 5+3,none⟩ (.int .i64 (K+1+(fp.length:Int)+1))) (.slice (some ⟨g,0,none⟩) n cap) (L.set i ⟨⟨Cd.mark K,Rc.mInts (K+1) fp.length,K+1+(fp.length:Int),K+1+(fp.length:Int)+1,fi⟩,.slice pa fp.length pc,.slice ia fi.length ic⟩)):=S3.out w2 HO2.out;have HF3:Hid (Rc.Fr (Rc.Rows (.slice (some ⟨g,0,none⟩) n cap) E) w ((w2.setCell ⟨g,i * 5+2,none⟩ (.int .i64 (K+1+(fp.length:Int)))).setCell ⟨g,i * 5+3,none⟩ (.int .i64 (K+1+(fp.length:Int)+1)))):=(HF2.out.trans (Rc.Fr.set _ _ _ _ HAG.out)).trans (Rc.Fr.set _ _ _ _ HAG.out);clear hr2 hf2)
        | (go_at_call 30;refine (Rc.markInsS_any A fi ia ic (K+1+(fp.length:Int)+1+1) (by omega) (by omega) (by omega) _ (HIN.out _ _ HO3.out).2.2).mono ?_;rintro e w3 ⟨rfl,hr3,hf3⟩;have HO4:Hid (Rc.Own A w3 (.slice (some ⟨g,0,none⟩) n cap) (Rc.mks 1 (E.take (i+1))++E.drop (i+1))):=S4.out _ w3 HO3.out hr3 hf3;have HF4:Hid (Rc.Fr (Rc.Rows (.slice (some ⟨g,0,none⟩) n cap) E) w w3):=HF3.out.wide hf3 (fun j hj => .inr ⟨_,HMM.out,.inr hj⟩);clear hr3 hf3))
      go_roundw
      case rel =>
        refine ⟨i+1,by omega,by go_num, ?_,HO4.out,HF4.out⟩
        rw [HNX.out];rfl
      case measure=>simp [intOf];omega
    · have hltI:¬ (i:Int) < (n:Int):=by omega
      have hin:i=n:=by omega
      have HEND:Hid (Rc.tot 1 (E.take i)=Rc.tot 1 E∧Rc.Own A wr (.slice a n cap) (Rc.mks 1 E)):=by
        have e1:E.take i=E:=List.take_of_length_le (by rw [HN.out];omega)
        have e2:E.drop i=[]:=List.drop_eq_nil_of_le (by rw [HN.out];omega)
        rw [e1,e2,List.append_nil] at hown
        exact ⟨by rw [e1],hown⟩
      clear hown hin
      rw [HEND.out.1]
      go_wp2_with fail
      go_ret
      exact ⟨rfl,HEND.out.2,hfr⟩
end Go.Proofs.YtbkhedpabfanoaaGreatDoor
namespace Go.Proofs.YtbkhedpabfanoaaGreatDoor
open Go.RowKit

theorem Rc.mks_at {E:List Rc.En} {i:Nat} (hi:i < E.length):(Rc.mks 1 E)[i]'(by rw [Rc.mks_len];exact hi)=Rc.mEn (Rc.tot 1 (E.take i)) E[i]:=by
  have aux:∀ (k:Int) (E:List Rc.En) (i:Nat) (hi:i < E.length),(Rc.mks k E)[i]'(by rw [Rc.mks_len];exact hi)=Rc.mEn (Rc.tot k (E.take i)) E[i]:=by
    intro k E
    induction E generalizing k with
    | nil=>intro i hi;simp at hi
    | cons a r ih =>
      intro i hi
      cases i with
      | zero=>rfl
      | succ i=>exact ih (Rc.nx k a) i (by simpa using hi)
  exact aux 1 E i hi
theorem Rc.Own.b1 {A:Nat} {w:World} {v:Value} {E:List Rc.En} (h:Rc.Own A w v E) (o:Obj):Rc.Own A (w.alloc o) v E:=h.below (Wc.b1 w o)
set_option maxRecDepth 100000 in
set_option maxHeartbeats 1000000 in
theorem Rc.markCode_any (A:Nat) (E:List Rc.En) (a:Option Addr) (cap:Nat) (hS:Rc.small E) (w:World) (ho:Rc.Own A w (.slice a E.length cap) E) :
    Calls Tryz.prog 7 #[.agg #[.slice a E.length cap],.int .i64 1] w fun e w'=>e = .returned (.int .i64 (Rc.tot 1 E))∧Rc.Own A w' (.slice a E.length cap) (Rc.mks 1 E)∧Rc.Fr (Rc.Rows (.slice a E.length cap) E) w w':=by
  have HM:Hid (∀ o:Obj,Calls Tryz.prog 15 #[.slice a E.length cap,.int .i64 1] (w.alloc o) fun e w'=>e = .returned (.int .i64 (Rc.tot 1 E))∧Rc.Own A w' (.slice a E.length cap) (Rc.mks 1 E)∧Rc.Fr (Rc.Rows (.slice a E.length cap) E) (w.alloc o) w'):=fun o=>Rc.markFnS_any A E a cap hS (w.alloc o) (ho.b1 o)
  clear ho
  go_enter Tryz.func7,Tryz.ntmps7
  go_wp2_with (go_at_call 15;refine (HM.out _).mono ?_;rintro e w1 ⟨rfl,h1,h2⟩)
  go_ret
  exact ⟨rfl,h1,(Rc.Fr.of_below (Wc.b1 w _)).trans h2⟩
set_option maxRecDepth 100000 in
set_option maxHeartbeats 1000000 in
theorem Rc.heldIntS_any (A n:Nat) (a:Option Addr) (cap:Nat) (k:Int) (h1:0≤k) (h2:k≤100000000000000) (hl:n≤1048576) (w:World) (ho:w.ownsRow A 3 1 (.slice a n cap) n (Cd.ints (Rc.mInts k n))) :
    Calls Tryz.prog 31 #[.slice a n cap,.int .i64 k] w fun e w'=>e = .returned (.int .i64 (k+(n:Int)))∧Below w.heap.size w w':=by
  have HC:Hid (∀ U,Below w.heap.size w U→U.ownsRow A 3 1 (.slice a n cap) n (Cd.ints (Rc.mInts k n))):=fun U hU=>Rc.own_keep ho (fun k _ _ hk=>hU.block k hk)
  clear ho
  go_enter Tryz.func31,Tryz.ntmps31
  go_wp2_with fail
  go_loopw [1,5] (fun q t wr => ∃ (i:Nat),i≤n∧t = .int .i64 (i:Int)∧q = .int .i64 (k+(i:Int))∧Below w.heap.size w wr) (fun _ t _=>n - (intOf t).toNat)
  case atStart=>exact ⟨0,by omega,rfl,by simp,Below.refl _ _⟩
  case round =>
    obtain ⟨i,hi,rfl,rfl,hbw⟩:=hrel
    by_cases hlt:i < n
    · have hltI:(i:Int) < (n:Int):=by omega
      obtain ⟨p,e1,e2⟩:=Rc.own_ptr (HC.out wr hbw) (by omega)
      subst e1
      have e0:=Rc.own_cells (HC.out wr hbw) e2 i (.int .i64 (k+(i:Int))) (by simp [Cd.ints,Rc.mInts,hlt])
      obtain ⟨K,HK⟩:∃ K,Hid (k+(i:Int)=K):=⟨_,(rfl:_=_)⟩
      have hK:0≤K∧K≤200000000000000:=by have:=HK.out;omega
      rw [HK.out] at e0 ⊢
      have hne:(K != K)=false:=by simp
      clear e2
      go_wp2_with fail
      go_roundw
      case rel =>
        refine ⟨i+1,by omega,by go_num, ?_,hbw⟩
        rw [show k+((i+1:Nat):Int)=K+1 by have:=HK.out;omega]
      case measure=>simp [intOf];omega
    · have hltI:¬ (i:Int) < (n:Int):=by omega
      have hin:i=n:=by omega
      subst hin
      go_wp2_with fail
      go_ret
      exact ⟨rfl,hbw⟩
set_option maxRecDepth 100000 in
set_option maxHeartbeats 2000000 in
theorem Rc.heldInsS_any (A n:Nat) (a:Option Addr) (cap:Nat) (k:Int) (h1:1≤k) (h2:k≤10000000000000) (hl:n≤1048576) (w:World) (ho:w.ownsRow A 54 4 (.slice a n cap) n (Rc.insCs (Rc.mInss k n))) :
    Calls Tryz.prog 32 #[.slice a n cap,.int .i64 k] w fun e w'=>e = .returned (.int .i64 (k+4 * (n:Int)))∧Below w.heap.size w w':=by
  have HC:Hid (∀ U,Below w.heap.size w U→U.ownsRow A 54 4 (.slice a n cap) n (Rc.insCs (Rc.mInss k n))):=fun U hU=>Rc.own_keep ho (fun k _ _ hk=>hU.block k hk)
  clear ho
  go_enter Tryz.func32,Tryz.ntmps32
  go_wp2_with fail
  go_loopw [1,5] (fun q t wr => ∃ (i:Nat),i≤n∧t = .int .i64 (i:Int)∧q = .int .i64 (k+4 * (i:Int))∧Below w.heap.size w wr) (fun _ t _=>n - (intOf t).toNat)
  case atStart=>exact ⟨0,by omega,rfl,by simp,Below.refl _ _⟩
  case round =>
    obtain ⟨i,hi,rfl,rfl,hbw⟩:=hrel
    by_cases hlt:i < n
    · have hltI:(i:Int) < (n:Int):=by omega
      obtain ⟨p,e1,e2⟩:=Rc.own_ptr (HC.out wr hbw) (by omega)
      subst e1
      obtain ⟨K,HK⟩:∃ K,Hid (k+4 * (i:Int)=K):=⟨_,(rfl:_=_)⟩
      have hK:1≤K∧K≤20000000000000:=by have:=HK.out;omega
      have HAT:Hid (∀ U,Below w.heap.size w U→U.cell? ⟨p,i * 4,none⟩=some (.int .i64 K)∧U.cell? ⟨p,i * 4+1,none⟩=some (.int .i64 (K+1))∧U.cell? ⟨p,i * 4+2,none⟩=some (.int .i64 (K+1+1))∧U.cell? ⟨p,i * 4+3,none⟩=some (.string (Cd.mark (K+1+1+1)))):=fun U hU=>by
        have hb:(Rc.mInss k n)[i]'(by rw [Rc.mInss_len];exact hlt)=Rc.mOne K:=by simp only [Rc.mInss,List.getElem_map,List.getElem_range];rw [HK.out]
        have hc:∀ j u,j < 4→(Cd.insC (Rc.mOne K))[j]? = some u→U.cell? ⟨p,i * 4+j,none⟩=some u:=fun j u hj hu=>by
          refine Rc.own_cells (HC.out U hU) e2 _ _ ((Rc.flat_at Cd.insC 4 (fun _=>rfl) _ i (by rw [Rc.mInss_len];exact hlt) j hj).trans ?_)
          rw [hb];exact hu
        exact ⟨hc 0 _ (by omega) rfl,hc 1 _ (by omega) rfl,hc 2 _ (by omega) rfl,hc 3 _ (by omega) rfl⟩
      obtain ⟨x0,x1,x2,x3⟩:=HAT.out wr hbw
      have hne0:(K != K)=false:=by simp
      have hne1:(K+1 != K+1)=false:=by simp
      have hne2:(K+1+1 != K+1+1)=false:=by simp
      rw [HK.out]
      clear e2
      go_wp2_with fail
      have x3':wr.drew.cell? ⟨p,i * 4+3,none⟩=some (.string (Cd.mark (K+1+1+1))):=x3
      obtain ⟨T,HT⟩:∃ T,Hid (Cd.mark (K+1+1+1)=T):=⟨_,(rfl:_=_)⟩
      rw [HT.out] at HAT x3 x3'
      have hbd:Below w.heap.size w wr.drew:=hbw.drew
      go_region_held3 (fun W=>W.cell? ⟨p,i * 4+3,none⟩=some (.string T)) (with_reducible first | exact x3' | exact z3) (first | (go_at_call 28;refine (Cd.markText_any _ _ (by omega) (by omega)).mono ?_;rintro e w1 ⟨rfl,hb1⟩;rw [HT.out];have hb2:Below w.heap.size w w1:=hbd.trans (hb1.mono hbd.size);obtain ⟨-,-,-,z3⟩:=HAT.out w1 hb2))
      have htt:(T.toList == T.toList)=true:=by simp
      go_wp2_with fail
      go_roundw
      case rel =>
        refine ⟨i+1,by omega,by go_num, ?_,hb2⟩
        rw [show k+4 * ((i+1:Nat):Int)=K+1+1+1+1 by have:=HK.out;omega]
      case measure=>simp [intOf];omega
    · have hltI:¬ (i:Int) < (n:Int):=by omega
      have hin:i=n:=by omega
      subst hin
      go_wp2_with fail
      go_ret
      exact ⟨rfl,hbw⟩
set_option maxRecDepth 100000 in
set_option maxHeartbeats 4000000 in
theorem Rc.heldFnS_any (A:Nat) (E:List Rc.En) (a:Option Addr) (cap:Nat) (hS:Rc.small E) (w:World) (ho:Rc.Own A w (.slice a E.length cap) (Rc.mks 1 E)) :
    Calls Tryz.prog 16 #[.slice a E.length cap,.int .i64 1] w fun e w'=>e = .returned (.int .i64 (Rc.tot 1 E))∧Below w.heap.size w w':=by
  have HC:Hid (∀ U,Below w.heap.size w U→Rc.Own A U (.slice a E.length cap) (Rc.mks 1 E)):=fun U hU=>ho.below hU
  obtain ⟨n,HN⟩:∃ n,Hid (E.length=n):=⟨_,(rfl:E.length=_)⟩
  clear ho
  have hn:n≤60:=by rw [← HN.out];exact hS.1
  rw [HN.out] at HC ⊢
  go_enter Tryz.func16,Tryz.ntmps16
  go_wp2_with fail
  go_loopw [1,5] (fun q t wr => ∃ (i:Nat),i≤n∧t = .int .i64 (i:Int)∧q = .int .i64 (Rc.tot 1 (E.take i))∧Below w.heap.size w wr) (fun _ t _=>n - (intOf t).toNat)
  case atStart=>exact ⟨0,by omega,rfl,rfl,Below.refl _ _⟩
  case round =>
    obtain ⟨i,hi,rfl,rfl,hbw⟩:=hrel
    by_cases hlt:i < n
    · have hltI:(i:Int) < (n:Int):=by omega
      have hE:i < E.length:=by rw [HN.out];exact hlt
      have hM:i < (Rc.mks 1 E).length:=by rw [Rc.mks_len];exact hE
      obtain ⟨g,e1,e2⟩:=Rc.own_ptr (HC.out wr hbw).row (by rw [Rc.mks_len];omega)
      subst e1
      obtain ⟨K,HK⟩:∃ K,Hid (Rc.tot 1 (E.take i)=K):=⟨_,(rfl:_=_)⟩
      have hK:1≤K∧K≤100000000:=by rw [← HK.out];exact hS.at i
      have HNX:Hid (Rc.tot 1 (E.take (i+1))=Rc.nx K E[i]):=by rw [Hid,Rc.tot_next hE,HK.out]
      have hmem:=hS.2 _ (List.getElem_mem hE)
      have hMi:(Rc.mks 1 E)[i]=Rc.mEn K E[i]:=by rw [← HK.out];exact Rc.mks_at hE
      obtain ⟨⟨⟨fn,fp,fr,fs,fi⟩,pv,iv⟩,HE⟩:∃ e,Hid (E[i]=e):=⟨_,(rfl:E[i]=_)⟩
      rw [HE.out] at hMi hmem HNX
      simp only at hmem
      have hpr:=(HC.out wr hbw).par _ (List.getElem_mem hM)
      have hir:=(HC.out wr hbw).ins _ (List.getElem_mem hM)
      rw [hMi] at hpr hir
      simp only [Rc.mEn,Rc.mInts_len,Rc.mInss_len] at hpr hir
      obtain ⟨pa,pc,hpv⟩:=Cd.rowLen hpr
      obtain ⟨ia,ic,hiv⟩:=Cd.rowLen hir
      subst hpv
      subst hiv
      have HAT:Hid (∀ U,Below w.heap.size w U→(U.cell? ⟨g,i * 5,none⟩=some (.string (Cd.mark K))∧U.cell? ⟨g,i * 5+1,none⟩=some (.slice pa fp.length pc)∧U.cell? ⟨g,i * 5+2,none⟩=some (.int .i64 (K+1+(fp.length:Int)))∧U.cell? ⟨g,i * 5+3,none⟩=some (.int .i64 (K+1+(fp.length:Int)+1))∧U.cell? ⟨g,i * 5+4,none⟩=some (.slice ia fi.length ic))∧U.ownsRow A 3 1 (.slice pa fp.length pc) fp.length (Cd.ints (Rc.mInts (K+1) fp.length))∧U.ownsRow A 54 4 (.slice ia fi.length ic) fi.length (Rc.insCs (Rc.mInss (K+1+(fp.length:Int)+1+1) fi.length))):=fun U hU=>by
        have h5:=((HC.out U hU).five hM e2).1
        have hp:=(HC.out U hU).par _ (List.getElem_mem hM)
        have hq:=(HC.out U hU).ins _ (List.getElem_mem hM)
        rw [hMi] at h5 hp hq
        simp only [Rc.mEn,Rc.mInts_len,Rc.mInss_len] at h5 hp hq
        exact ⟨h5,hp,hq⟩
      obtain ⟨T,HT⟩:∃ T,Hid (Cd.mark K=T):=⟨_,(rfl:_=_)⟩
      rw [HT.out] at HAT
      obtain ⟨⟨x0,-⟩,-⟩:=HAT.out wr hbw
      have x0':wr.drew.cell? ⟨g,i * 5,none⟩=some (.string T):=x0
      have hbd:Below w.heap.size w wr.drew:=hbw.drew
      rw [HK.out]
      clear e2 hpr hir hMi HE HK
      go_wp2_with fail
      go_region_held3 (fun W=>W.cell? ⟨g,i * 5,none⟩=some (.string T)) (with_reducible first | exact x0' | exact z0) (first | (go_at_call 28;refine (Cd.markText_any _ _ (by omega) (by omega)).mono ?_;rintro e w1 ⟨rfl,hb1⟩;rw [HT.out];have hb2:Below w.heap.size w w1:=hbd.trans (hb1.mono hbd.size);obtain ⟨⟨z0,z1,-⟩,-⟩:=HAT.out w1 hb2;clear hb1))
      have htt:(T.toList == T.toList)=true:=by simp
      obtain ⟨np,HNP⟩:∃ np,Hid (fp.length=np):=⟨_,(rfl:fp.length=_)⟩
      obtain ⟨nq,HNQ⟩:∃ nq,Hid (fi.length=nq):=⟨_,(rfl:fi.length=_)⟩
      rw [HNP.out] at HAT z1 hmem
      rw [HNQ.out] at HAT hmem
      have HNX2:Hid (Rc.tot 1 (E.take (i+1))=K+1+(np:Int)+1+1+4 * (nq:Int)):=by rw [Hid,HNX.out];simp only [Rc.nx,HNP.out,HNQ.out]
      clear HNX HNP HNQ x0 x0' z0
      have hq1:¬ K+1+(np:Int) < 0:=by omega
      have hq2:¬ K+1+(np:Int)+1+1+4 * (nq:Int) < 0:=by omega
      have hne1:(K+1+(np:Int) != K+1+(np:Int))=false:=by simp
      have hne2:(K+1+(np:Int)+1 != K+1+(np:Int)+1)=false:=by simp
      go_wp2_with (first
        | (go_at_call 31;refine (Rc.heldIntS_any A np pa pc (K+1) (by omega) (by omega) (by omega) _ (HAT.out w1 hb2).2.1).mono ?_;rintro e w3 ⟨rfl,hb3⟩;have hb4:Below w.heap.size w w3:=hb2.trans (hb3.mono hb2.size);obtain ⟨⟨-,-,y2,y3,y4⟩,-⟩:=HAT.out w3 hb4;clear hb3)
        | (go_at_call 32;refine (Rc.heldInsS_any A nq ia ic (K+1+(np:Int)+1+1) (by omega) (by omega) (by omega) _ (HAT.out w3 hb4).2.2).mono ?_;rintro e w5 ⟨rfl,hb5⟩;have hb6:Below w.heap.size w w5:=hb4.trans (hb5.mono hb4.size);clear hb5))
      go_roundw
      case rel=>exact ⟨i+1,by omega,by go_num,by rw [HNX2.out],hb6⟩
      case measure=>simp [intOf];omega
    · have hltI:¬ (i:Int) < (n:Int):=by omega
      have HEND:Hid (Rc.tot 1 (E.take i)=Rc.tot 1 E):=by rw [Hid,List.take_of_length_le (by rw [HN.out];omega)]
      rw [HEND.out]
      go_wp2_with fail
      go_ret
      exact ⟨rfl,hbw⟩
set_option maxRecDepth 100000 in
set_option maxHeartbeats 1000000 in
theorem Rc.heldCode_any (A:Nat) (E:List Rc.En) (a:Option Addr) (cap:Nat) (hS:Rc.small E) (w:World) (ho:Rc.Own A w (.slice a E.length cap) (Rc.mks 1 E)) :
    Calls Tryz.prog 8 #[.agg #[.slice a E.length cap],.int .i64 1] w fun e w'=>e = .returned (.int .i64 (Rc.tot 1 E))∧Below w.heap.size w w':=by
  have HM:Hid (∀ o:Obj,Calls Tryz.prog 16 #[.slice a E.length cap,.int .i64 1] (w.alloc o) fun e w'=>e = .returned (.int .i64 (Rc.tot 1 E))∧Below (w.alloc o).heap.size (w.alloc o) w'):=fun o=>Rc.heldFnS_any A E a cap hS (w.alloc o) (ho.b1 o)
  have hK:1≤Rc.tot 1 E:=(Rc.tot_bd E 1 hS.2).1
  obtain ⟨K,HK⟩:∃ K,Hid (Rc.tot 1 E=K):=⟨_,(rfl:_=_)⟩
  rw [HK.out] at HM hK ⊢
  have hKn:¬ K < 0:=by omega
  clear ho
  go_enter Tryz.func8,Tryz.ntmps8
  go_wp2_with (go_at_call 16;refine (HM.out _).mono ?_;rintro e w1 ⟨rfl,h1⟩)
  go_ret
  exact ⟨rfl,(Wc.b1 w _).trans (h1.mono (by simp))⟩
end Go.Proofs.YtbkhedpabfanoaaGreatDoor
