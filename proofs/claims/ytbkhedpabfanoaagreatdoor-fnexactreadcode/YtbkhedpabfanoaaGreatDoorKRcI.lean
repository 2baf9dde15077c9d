import Derived.Test.YtbkhedpabfanoaaGreatDoorKRcG
import Derived.Test.YtbkhedpabfanoaaGreatDoorKCeJ
import Derived.Test.YtbkhedpabfanoaaGreatDoorCfS
import Derived.BigQuiet
import Derived.Laws.Bits64b
namespace Go.Proofs.YtbkhedpabfanoaaGreatDoor
open Go.RowKit

structure Rc.Tb (w:World):Prop where
  ins:Cd.InsTab w
  word:Cd.WordTab w
  zero:w.cell? ⟨7,0,none⟩=some (.bool false)
  siz:11≤w.heap.size
  great:∃ a,w.cell? ⟨5,0,none⟩=some (.iface 214 (.pointer (some a)))
  short:∃ a,w.cell? ⟨6,0,none⟩=some (.iface 214 (.pointer (some a)))
  zeroE:∃ a,w.cell? ⟨8,0,none⟩=some (.iface 214 (.pointer (some a)))
  head:∃ a,w.cell? ⟨2,0,none⟩=some (.iface 214 (.pointer (some a)))
  form:∃ a,w.cell? ⟨1,0,none⟩=some (.iface 214 (.pointer (some a)))
  rest:∃ a,w.cell? ⟨3,0,none⟩=some (.iface 214 (.pointer (some a)))
  code:∃ a,w.cell? ⟨4,0,none⟩=some (.iface 214 (.pointer (some a)))
  ty:w.cell? ⟨0,0,none⟩=some (.iface 91 (.agg #[.pointer (some ⟨11,41,none⟩)]))
theorem Rc.Tb.below {w w':World} (h:Rc.Tb w) (hb:Below w.heap.size w w'):Rc.Tb w':=by
  have hs:=h.siz
  have hc:∀ k j,k < 11→w'.cell? ⟨k,j,none⟩=w.cell? ⟨k,j,none⟩:=fun k j hk=>hb.cell (p:=⟨k,j,none⟩) (by show k < _;omega)
  exact ⟨h.ins.below hb,h.word.below hb,(hc _ _ (by decide)).trans h.zero,Nat.le_trans hs hb.size,by rw [hc _ _ (by decide)];exact h.great,by rw [hc _ _ (by decide)];exact h.short,by rw [hc _ _ (by decide)];exact h.zeroE,by rw [hc _ _ (by decide)];exact h.head,by rw [hc _ _ (by decide)];exact h.form,by rw [hc _ _ (by decide)];exact h.rest,by rw [hc _ _ (by decide)];exact h.code,(hc _ _ (by decide)).trans h.ty⟩
structure Rc.Rr (w0:World) (g:Nat) (r:ByteArray) (w:World):Prop where
  blk:w.heap[g]? = some (.cells #[.string r] 61)
  bel:Below w0.heap.size w0 w
  lo:w0.heap.size≤g
  siz:r.size≤1048576
theorem Rc.Rr.lt {w0:World} {g:Nat} {r:ByteArray} {w:World} (h:Rc.Rr w0 g r w):g < w.heap.size:=(Array.getElem?_eq_some_iff.1 h.blk).1
theorem Rc.Rr.keep {w0:World} {g:Nat} {r:ByteArray} {w w':World} (h:Rc.Rr w0 g r w) (hb:Below w.heap.size w w'):Rc.Rr w0 g r w':=⟨(hb.block g h.lt).trans h.blk,h.bel.trans (hb.mono h.bel.size),h.lo,h.siz⟩
theorem Rc.Rr.drewN {w0:World} {g:Nat} {r:ByteArray} {w:World} (h:Rc.Rr w0 g r w) (n:Nat):Rc.Rr w0 g r (w.drewN n):=h.keep ⟨rfl,rfl,rfl,Nat.le_refl _,fun _ _=>rfl⟩
theorem Rc.Rr.set {w0:World} {g:Nat} {r:ByteArray} {w:World} (h:Rc.Rr w0 g r w) (t:ByteArray) (ht:t.size≤1048576):Rc.Rr w0 g t (w.setCell ⟨g,0,none⟩ (.string t)):=by
  have hlo:=h.lo
  exact ⟨by rw [Rc.set_same h.blk];rfl,h.bel.trans ⟨rfl,rfl,rfl,by simp [World.setCell],fun k hk=>Rc.set_oth (by omega)⟩,hlo,ht⟩
def Rc.Rok {α:Type} (w0:World) (g:Nat) (r:ByteArray) (w:World) (enc:α→List UInt8) (x:α) (w':World):Prop := ∃ r',r.data.toList=enc x++r'.data.toList∧Rc.Rr w0 g r' w'∧Rc.Fr (fun k=>k=g) w w'
def Rc.Rno {α:Type} (w0:World) (g:Nat) (r:ByteArray) (w:World) (enc:α→List UInt8) (fit:α→Prop) (w':World):Prop:=Rc.No enc fit r.data.toList∧∃ r',Rc.Rr w0 g r' w'∧Rc.Fr (fun k=>k=g) w w'
def Rc.Hi (r:ByteArray) (i acc:Nat):Prop:=i≤r.size∧(∀ x ∈ r.data.toList.take i,128≤x.toNat)∧acc=Rc.val (r.data.toList.take i)
theorem Rc.and_all : ∀ r:Fin 256,bits BinOp.and IntKind.u8 ((r.val:Nat):Int) 127=((r.val % 128:Nat):Int):=by decide +kernel
theorem Rc.or_val {acc b i:Nat} (ha:acc < 128 ^ i) (hb:b < 256) (hi:i≤8∨(i=9∧b≤1)):bits BinOp.or IntKind.u64 (acc:Int) (IntKind.u64.wrap (IntKind.u64.wrap (bits BinOp.and IntKind.u8 (b:Int) 127) * 2 ^ (7 * i)))=((acc+b % 128 * 128 ^ i:Nat):Int):=by
  have e1:bits BinOp.and IntKind.u8 (b:Int) 127=((b % 128:Nat):Int):=Rc.and_all ⟨b,hb⟩
  have e2:(2:Nat) ^ (7 * i)=128 ^ i:=by rw [Nat.pow_mul]
  have hlt:b % 128 * 128 ^ i < 18446744073709551616:=by
    rcases hi with h | ⟨rfl,h⟩
    · have h1:128 ^ i≤128 ^ 8:=Nat.pow_le_pow_right (by omega) h
      have h2:b % 128 * 128 ^ i≤127 * 128 ^ i:=Nat.mul_le_mul_right _ (by omega)
      have:(128:Nat) ^ 8=72057594037927936:=by decide
      omega
    · have h2:b % 128 * 128 ^ 9≤1 * 128 ^ 9:=Nat.mul_le_mul_right _ (by omega)
      have:(128:Nat) ^ 9=9223372036854775808:=by decide
      omega
  have ha2:acc < 18446744073709551616:=by
    have h1:128 ^ i≤128 ^ 9:=Nat.pow_le_pow_right (by omega) (by omega)
    have:(128:Nat) ^ 9=9223372036854775808:=by decide
    omega
  have e3:((b % 128:Nat):Int) * 2 ^ (7 * i)=((b % 128 * 128 ^ i:Nat):Int):=by
    rw [← e2];simp
  have e0:∀ x:Nat,x < 18446744073709551616→IntKind.u64.wrap (x:Int)=(x:Int):=fun x hx=>by
    have:IntKind.u64.wrap (x:Int)=(x:Int) % 18446744073709551616:=by unfold IntKind.wrap;rfl
    rw [this];omega
  rw [e1,e0 _ (by omega),e3,e0 _ hlt,bits_or_u64_nat _ _ ha2 hlt]
  congr 1
  have h4:=Nat.shiftLeft_add_eq_or_of_lt (b:=acc) (i:=7 * i) (by rw [e2];exact ha) (b % 128)
  rw [Nat.shiftLeft_eq,e2] at h4
  rw [Nat.or_comm,← h4,Nat.add_comm]
theorem Rc.Hi.next {r:ByteArray} {i acc:Nat} (h:Rc.Hi r i acc) (hi:i < r.size) (hb:128≤r[i].toNat):Rc.Hi r (i+1) (acc+r[i].toNat % 128 * 128 ^ i):=by
  obtain ⟨h1,h2,h3⟩:=h
  have hl:i < r.data.toList.length:=by rw [Rc.ba_len];exact hi
  have e:r.data.toList.take (i+1)=r.data.toList.take i++[r[i]]:=by rw [List.take_add_one,List.getElem?_eq_getElem hl];rfl
  have el:(r.data.toList.take i).length=i:=by rw [List.length_take];omega
  refine ⟨hi,fun x hx => ?_,by rw [e,Rc.val_snoc,el,h3]⟩
  rw [e] at hx
  rcases List.mem_append.1 hx with hx | hx
  · exact h2 x hx
  · rw [List.mem_singleton.1 hx];exact hb
theorem Rc.Hi.lt {r:ByteArray} {i acc:Nat} (h:Rc.Hi r i acc):acc < 128 ^ i:=by
  have h1:=Rc.val_lt (r.data.toList.take i)
  have el:(r.data.toList.take i).length=i:=by rw [List.length_take,Rc.ba_len];have:=h.1;omega
  rw [el] at h1;rw [h.2.2];exact h1
theorem Rc.split_at (r:ByteArray) (i:Nat) (hi:i < r.size):r.data.toList=r.data.toList.take i++r[i]::r.data.toList.drop (i+1):=by
  have hl:i < r.data.toList.length:=by rw [Rc.ba_len];exact hi
  rw [show r[i]=r.data.toList[i] from rfl,← List.drop_eq_getElem_cons hl,List.take_append_drop]
theorem Rc.Hi.done {r:ByteArray} {i acc:Nat} (h:Rc.Hi r i acc) (hi:i < r.size) (hb:r[i].toNat < 128) (hz:i=0∨r[i].toNat≠0) (h9:i≤9) (h1:i=9→r[i].toNat≤1):acc+r[i].toNat % 128 * 128 ^ i < 18446744073709551616∧r.data.toList=Wc.num (acc+r[i].toNat % 128 * 128 ^ i)++(r.extract (i+1) r.size).data.toList:=by
  have el:(r.data.toList.take i).length=i:=by rw [List.length_take,Rc.ba_len];omega
  have hB:Rc.Bts (r.data.toList.take i) r[i]:=⟨h.2.1,hb,by
    rcases hz with rfl | hz
    · exact .inl rfl
    · exact .inr hz⟩
  have e:acc+r[i].toNat % 128 * 128 ^ i=Rc.val (r.data.toList.take i++[r[i]]):=by rw [Rc.val_snoc,el,h.2.2]
  rw [e]
  refine ⟨Rc.bts_lt hB (by rw [el];exact h9) (by rw [el];exact h1), ?_⟩
  rw [Rc.num_of _ _ hB,Rc.ext_list,List.append_assoc]
  have h2:(r.data.toList.drop (i+1)).take (r.size - (i+1))=r.data.toList.drop (i+1):=List.take_of_length_le (by rw [List.length_drop,Rc.ba_len];omega)
  rw [h2]
  exact Rc.split_at r i hi
theorem Rc.Hi.no {r:ByteArray} {i acc:Nat} (h:Rc.Hi r i acc) (hbad:r.size≤i∨10≤i∨∃ hi:i < r.size,(r[i].toNat=0∧0 < i)∨(i=9∧1 < r[i].toNat)):Rc.No Wc.num (fun n=>n < 18446744073709551616) r.data.toList:=fun n t hn e=>by
  obtain ⟨p,b,e1,hB,hv⟩:=Rc.num_bts n
  obtain ⟨h9,h91⟩:=Rc.bts_64 hB (by rw [hv];exact hn)
  rw [e1,List.append_assoc] at e
  -- the last byte of the number lies at p.length, and not ahead of i
  have hlen:p.length < r.size:=by
    have:=congrArg List.length e
    rw [Rc.ba_len] at this
    simp at this
    omega
  have hb:r[p.length]=b:=by
    have h1:r.data.toList[p.length]? = some b:=by rw [e];simp
    have h2:r.data.toList[p.length]? = some r[p.length]:=by rw [List.getElem?_eq_getElem (by rw [Rc.ba_len];exact hlen)];rfl
    rw [h2] at h1;exact Option.some.inj h1
  have hip:i≤p.length:=by
    rcases Nat.lt_or_ge p.length i with h1 | h1
    · have hm:b ∈ r.data.toList.take i:=by
        rw [← hb]
        have h2:(r.data.toList.take i)[p.length]? = some r[p.length]:=by rw [List.getElem?_take_of_lt h1,List.getElem?_eq_getElem (by rw [Rc.ba_len];exact hlen)];rfl
        exact List.mem_of_getElem? h2
      have:=h.2.1 b hm
      have:=hB.lo
      omega
    · exact h1
  rcases hbad with h1 | h1 | ⟨hi,h1⟩
  · omega
  · omega
  · rcases Nat.lt_or_ge i p.length with h2 | h2
    · -- the byte at i is ahead of the last one
      have hm:128≤r[i].toNat:=by
        have h3:r.data.toList[i]? = some p[i]:=by rw [e,List.getElem?_append_left h2,List.getElem?_eq_getElem h2]
        have h4:r.data.toList[i]? = some r[i]:=by rw [List.getElem?_eq_getElem (by rw [Rc.ba_len];exact hi)];rfl
        rw [h4] at h3
        rw [Option.some.inj h3]
        exact hB.hi _ (List.getElem_mem h2)
      rcases h1 with h1 | h1
      · omega
      · omega
    · have e2:i=p.length:=by omega
      subst e2
      rw [hb] at h1
      rcases h1 with ⟨h1,h3⟩ | ⟨h1,h3⟩
      · rcases hB.nz with h4 | h4
        · rw [h4] at h3;simp at h3
        · exact h4 h1
      · have:=h91 h1;omega
def Rc.NPost (w0:World) (g:Nat) (r:ByteArray) (w:World) (e:Ending) (w':World):Prop :=
  (∃ n,e = .returned (.tuple #[.int .u64 ((n:Nat):Int),.nilIface])∧n < 18446744073709551616∧Rc.Rok w0 g r w Wc.num n w')∨(∃ a,e = .returned (.tuple #[.int .u64 0,.iface 214 (.pointer (some a))])∧Rc.Rno w0 g r w Wc.num (fun n=>n < 18446744073709551616) w')
set_option maxRecDepth 100000 in
set_option maxHeartbeats 1000000 in
theorem Rc.inum_any (w0:World) (g:Nat) (r:ByteArray) (w:World) (hT:Rc.Tb w0) (hR:Rc.Rr w0 g r w) :
    Calls Tryz.prog 67 #[.pointer (some ⟨g,0,none⟩)] w (Rc.NPost w0 g r w):=by
  have hrs:=hR.siz
  obtain ⟨c0,f0⟩:=Rc.cell1 hR.blk
  by_cases hmin:r.size≤10
  all_goals
    have hminI:(r.size:Int)≤10∨10 < (r.size:Int):=by omega
    go_enter Tryz.func67,Tryz.ntmps67
    first | (have hminJ:(r.size:Int)≤10:=(by omega)) | (have hminJ:¬ (r.size:Int)≤10:=(by omega);have hminK:(10:Int) < (r.size:Int):=(by omega))
    clear hminI
    go_wp2_with fail
  all_goals
    go_loopw [4,13] (fun tn ti wr => ∃ (i acc:Nat),i≤10∧tn = .int .u64 (acc:Int)∧ti = .int .i64 (i:Int)∧Rc.Hi r i acc∧Rc.Rr w0 g r wr∧Rc.Fr (fun k=>k=g) w wr) (fun _ ti _=>10 - (intOf ti).toNat)
    case atStart=>exact ⟨0,0,by omega,rfl,rfl,⟨by omega,by simp,rfl⟩,hR,Rc.Fr.refl _ _⟩
    case round =>
      obtain ⟨i,acc,hi,rfl,rfl,hH,hR1,hF1⟩:=hrel
      obtain ⟨d0,k0⟩:=Rc.cell1 hR1.blk
      have HR1:Hid (Rc.Rr w0 g r wr):=hR1
      have HF1:Hid (Rc.Fr (fun k=>k=g) w wr):=hF1
      have HH:Hid (Rc.Hi r i acc):=hH
      have HT:Hid (Rc.Tb wr):=hT.below hR1.bel
      obtain ⟨ag,hag⟩:=HT.out.great
      obtain ⟨ah,hah⟩:=HT.out.short
      obtain ⟨az,haz⟩:=HT.out.zeroE
      clear hR1 hF1 hH
      by_cases hlt:i < r.size∧i < 10
      · have l1:(i:Int) < (r.size:Int):=by omega
        have l2:(i:Int) < 10:=by omega
        have l3:i < r.size:=hlt.1
        obtain ⟨b,HB⟩:∃ b,Hid (r[i].toNat=b):=⟨_,(rfl:r[i].toNat=_)⟩
        have hb:b < 256:=by rw [← HB.out];exact r[i].toNat_lt
        have hbI:((r[i].toNat:Nat):Int)=(b:Int):=by rw [HB.out]
        have HOR:Hid (i≤8∨(i=9∧b≤1)→bits BinOp.or IntKind.u64 (acc:Int) (IntKind.u64.wrap (IntKind.u64.wrap (bits BinOp.and IntKind.u8 (b:Int) 127) * 2 ^ (7 * i)))=((acc+b % 128 * 128 ^ i:Nat):Int)):=fun h=>Rc.or_val HH.out.lt hb h
        by_cases hgr:i=9∧1 < b
        · have h9:((i:Int) == 9)=true:=by simp;omega
          have hb1:(1:Int) < (b:Int):=by omega
          have HNO:Hid (Rc.No Wc.num (fun n=>n < 18446744073709551616) r.data.toList):=HH.out.no (.inr (.inr ⟨l3,.inr (by rw [HB.out];exact hgr)⟩))
          clear hgr HOR hlt
          go_wp2_with fail
          go_quiet (fail)
          go_wp2_with fail
          go_ret2
          exact .inr ⟨ag,rfl,HNO.out,r,HR1.out.drewN _,HF1.out.drewN _⟩
        · have hg9:i≤8∨(i=9∧b≤1):=by omega
          obtain ⟨N,HN⟩:∃ N,Hid (acc+b % 128 * 128 ^ i=N):=⟨_,(rfl:acc+b % 128 * 128 ^ i=_)⟩
          have horI:=HOR.out hg9
          rw [HN.out] at horI
          have HG9:Hid (i≤8∨(i=9∧b≤1)):=hg9
          have hfl:(((i:Int) == 9)=true∧¬ (1:Int) < (b:Int))∨((i:Int) == 9)=false:=by
            by_cases h:i=9
            · left;exact ⟨by simp;omega,by omega⟩
            · right;simp;omega
          clear hg9 HOR hgr hlt
          rcases hfl with ⟨h9,hb1⟩ | h9
          rotate_left
          by_cases hhi:128≤b
          · have hhiI:(128:Int)≤(b:Int):=by omega
            have hi8:i+1≤10:=by have:=HG9.out;omega
            go_wp2_with fail
            refine ⟨⟨i+1,N,hi8,rfl,by go_num, ?_,HR1.out,HF1.out⟩,by simp [intOf];omega⟩
            have e:=HB.out
            have:=HH.out.next l3 (by rw [e];exact hhi)
            rw [e,HN.out] at this
            exact this
          rotate_left
          have hhi:¬ 128≤b:=by omega
          all_goals
            have hhiI:¬ (128:Int)≤(b:Int):=by omega
            by_cases hz:b=0∧0 < i
            · have hbz:((b:Int) == 0)=true:=by simp;omega
              have hi0:(0:Int) < (i:Int):=by omega
              have HNO:Hid (Rc.No Wc.num (fun n=>n < 18446744073709551616) r.data.toList):=HH.out.no (.inr (.inr ⟨l3,.inl (by rw [HB.out];exact hz)⟩))
              clear hz
              go_wp2_with fail
              go_quiet (fail)
              go_wp2_with fail
              go_ret2
              exact .inr ⟨az,rfl,HNO.out,r,HR1.out.drewN _,HF1.out.drewN _⟩
            · have hfl2:(((b:Int) == 0)=true∧¬ (0:Int) < (i:Int))∨((b:Int) == 0)=false:=by
                by_cases h:b=0
                · left;exact ⟨by simp;omega,by omega⟩
                · right;simp;omega
              have HDN:Hid (N < 18446744073709551616∧r.data.toList=Wc.num N++(r.extract (i+1) r.size).data.toList):=by
                have e:=HB.out
                have h9:=HG9.out
                have:=HH.out.done l3 (by rw [e];omega) (by rw [e];omega) (by omega) (fun h=>by rw [e];omega)
                rw [e,HN.out] at this
                exact this
              have hxs:(r.extract (i+1) r.size).size≤1048576:=by rw [← Rc.ba_len,Rc.ext_list,List.length_take,List.length_drop,Rc.ba_len];omega
              clear hz
              rcases hfl2 with ⟨hbz,hi0⟩ | hbz
              all_goals
                go_wp2_with fail
                go_ret2
                exact .inl ⟨N,rfl,HDN.out.1,_,HDN.out.2,HR1.out.set _ hxs,HF1.out.trans (Rc.Fr.set _ _ _ _ rfl)⟩
      · have HNO:Hid (Rc.No Wc.num (fun n=>n < 18446744073709551616) r.data.toList):=HH.out.no (by
          by_cases h:i < r.size
          · exact .inr (.inl (by omega))
          · exact .inl (by omega))
        first | (have hl0:¬ i < 10:=fun h=>hlt ⟨by omega,h⟩;have hl:¬ (i:Int) < 10:=(by omega)) | (have hl0:¬ i < r.size:=fun h=>hlt ⟨h,by omega⟩;have hl:¬ (i:Int) < (r.size:Int):=(by omega))
        go_wp2_with fail
        go_quiet (fail)
        go_wp2_with fail
        go_ret2
        exact .inr ⟨ah,rfl,HNO.out,r,HR1.out.drewN _,HF1.out.drewN _⟩
def Rc.UPost (m:Nat) (w0:World) (g:Nat) (r:ByteArray) (w:World) (e:Ending) (w':World):Prop :=
  (∃ n,e = .returned (.tuple #[.int .i64 ((n:Nat):Int),.nilIface])∧n≤m∧Rc.Rok w0 g r w Wc.num n w')∨(∃ a,e = .returned (.tuple #[.int .i64 0,.iface 214 (.pointer (some a))])∧Rc.Rno w0 g r w Wc.num (fun n=>n≤m) w')
set_option maxRecDepth 100000 in
set_option maxHeartbeats 1000000 in
theorem Rc.upTo_any (m:Nat) (hm:m≤1000000) (w0:World) (g:Nat) (r:ByteArray) (w:World) (hT:Rc.Tb w0) (hR:Rc.Rr w0 g r w) :
    Calls Tryz.prog 51 #[.pointer (some ⟨g,0,none⟩),.int .i64 (m:Int)] w (Rc.UPost m w0 g r w):=by
  have HC:Hid (Calls Tryz.prog 67 #[.pointer (some ⟨g,0,none⟩)] w (Rc.NPost w0 g r w)):=Rc.inum_any w0 g r w hT hR
  clear hR
  go_enter Tryz.func51,Tryz.ntmps51
  go_wp2_with fail
  refine HC.out.mono ?_
  rintro e w1 (⟨n,rfl,hn,r1,hl,hR1,hF1⟩ | ⟨a,rfl,hno,r1,hR1,hF1⟩)
  · by_cases hlt:m < n
    · have hltI:(m:Int) < (n:Int):=by omega
      obtain ⟨ag,hag⟩:=(hT.below hR1.bel).great
      have HR1:Hid (Rc.Rr w0 g r1 w1):=hR1
      have HF1:Hid (Rc.Fr (fun k=>k=g) w w1):=hF1
      have HNO:Hid (Rc.No Wc.num (fun n=>n≤m) r.data.toList):=fun x t hx e=>by
        have:=(Rc.num_one (hl.symm.trans e)).1
        simp only at hx
        omega
      clear hl hR1 hF1 hT
      go_wp2_with fail
      go_quiet (fail)
      go_wp2_with fail
      go_ret2
      exact .inr ⟨ag,rfl,HNO.out,r1,HR1.out.drewN _,HF1.out.drewN _⟩
    · have hltI:¬ (m:Int) < (n:Int):=by omega
      have HOK:Hid (Rc.Rok w0 g r w Wc.num n w1):=⟨r1,hl,hR1,hF1⟩
      clear hl hR1 hF1 hT
      go_wp2_with fail
      go_ret2
      exact .inl ⟨n,rfl,by omega,HOK.out⟩
  · have HNO:Hid (Rc.Rno w0 g r w Wc.num (fun n=>n≤m) w1):=⟨fun x t hx e=>hno x t (by simp only at hx ⊢;omega) e,r1,hR1,hF1⟩
    clear hno hR1 hF1 hT
    go_wp2_with fail
    go_ret2
    exact .inr ⟨a,rfl,HNO.out⟩
def Rc.TPost (m:Nat) (w0:World) (g:Nat) (r:ByteArray) (w:World) (e:Ending) (w':World):Prop :=
  (∃ t,e = .returned (.tuple #[.string t,.nilIface])∧t.size≤m∧Rc.Rok w0 g r w Wc.txt t w')∨(∃ a,e = .returned (.tuple #[.string ⟨#[]⟩,.iface 214 (.pointer (some a))])∧Rc.Rno w0 g r w Wc.txt (fun t=>t.size≤m) w')
theorem Rc.clone_any (s:ByteArray) (w:World) (hlim:s.size≤1048576):Calls Tryz.prog 68 #[.string s] w fun e w'=>e = .returned (.string s)∧Below w.heap.size w w':=by
  have HC:Hid (Calls Tryz.prog 83 #[.string s] w fun e w'=>e = .returned (.string s)∧Below w.heap.size w w'):=Tryz.stringslite_Clone s w (by omega)
  go_enter Tryz.func68,Tryz.ntmps68
  go_wp2_with (go_at_call 83;refine HC.out.mono ?_;rintro e w1 ⟨rfl,hb1⟩)
  go_ret
  exact ⟨rfl,hb1⟩
set_option maxRecDepth 100000 in
set_option maxHeartbeats 1000000 in
theorem Rc.itext_any (m:Nat) (hm:m≤1000000) (w0:World) (g:Nat) (r:ByteArray) (w:World) (hT:Rc.Tb w0) (hR:Rc.Rr w0 g r w) :
    Calls Tryz.prog 52 #[.pointer (some ⟨g,0,none⟩),.int .i64 (m:Int)] w (Rc.TPost m w0 g r w):=by
  have HC:Hid (Calls Tryz.prog 51 #[.pointer (some ⟨g,0,none⟩),.int .i64 (m:Int)] w (Rc.UPost m w0 g r w)):=Rc.upTo_any m hm w0 g r w hT hR
  clear hR
  go_enter Tryz.func52,Tryz.ntmps52
  go_wp2_with fail
  refine HC.out.mono ?_
  rintro e w1 (⟨n,rfl,hn,r1,hl,hR1,hF1⟩ | ⟨a,rfl,hno,r1,hR1,hF1⟩)
  · obtain ⟨c0,f0⟩:=Rc.cell1 hR1.blk
    have hz:=hR1.siz
    by_cases hlt:r1.size < n
    · have hltI:(r1.size:Int) < (n:Int):=by omega
      obtain ⟨ag,hag⟩:=(hT.below hR1.bel).short
      have HR1:Hid (Rc.Rr w0 g r1 w1):=hR1
      have HF1:Hid (Rc.Fr (fun k=>k=g) w w1):=hF1
      have HNO:Hid (Rc.No Wc.txt (fun t=>t.size≤m) r.data.toList):=fun x t hx e=>by
        unfold Wc.txt at e
        rw [List.append_assoc] at e
        obtain ⟨e1,e2⟩:=Rc.num_one (hl.symm.trans e)
        have:=congrArg List.length e2
        rw [List.length_append,Rc.ba_len,Rc.ba_len] at this
        omega
      clear hl hR1 hF1 hT
      go_wp2_with fail
      go_quiet (fail)
      go_wp2_with fail
      go_ret2
      exact .inr ⟨ag,rfl,HNO.out,r1,HR1.out.drewN _,HF1.out.drewN _⟩
    · have hltI:¬ (r1.size:Int) < (n:Int):=by omega
      have hleI:(n:Int)≤(r1.size:Int):=by omega
      have hx:(r1.extract 0 n).size=n∧(r1.extract n r1.size).size≤1048576∧r1.data.toList=(r1.extract 0 n).data.toList++(r1.extract n r1.size).data.toList:=by
        refine ⟨?_, ?_, ?_⟩
        · rw [← Rc.ba_len,Rc.ext_list,List.length_take,List.length_drop,Rc.ba_len];omega
        · rw [← Rc.ba_len,Rc.ext_list,List.length_take,List.length_drop,Rc.ba_len];omega
        · rw [Rc.ext_list,Rc.ext_list,List.drop_zero,Nat.sub_zero,List.take_of_length_le (l:=r1.data.toList.drop n) (by rw [List.length_drop,Rc.ba_len];omega),List.take_append_drop]
      obtain ⟨t,HTT⟩:∃ t,Hid (r1.extract 0 n=t):=⟨_,(rfl:r1.extract 0 n=_)⟩
      obtain ⟨u,HU⟩:∃ t,Hid (r1.extract n r1.size=t):=⟨_,(rfl:r1.extract n r1.size=_)⟩
      go_wp2_with fail
      rw [HTT.out] at hx ⊢
      rw [HU.out] at hx
      refine (Rc.clone_any t w1 (by omega)).mono ?_
      rintro e w2 ⟨rfl,hb2⟩
      have HR2:Hid (Rc.Rr w0 g r1 w2):=hR1.keep hb2
      have HF2:Hid (Rc.Fr (fun k=>k=g) w w2):=hF1.trans (Rc.Fr.of_below hb2)
      have HX:Hid (t.size≤m∧u.size≤1048576∧r.data.toList=Wc.txt t++u.data.toList):=⟨by omega,hx.2.1,by rw [hl,Wc.txt,hx.1,List.append_assoc,← hx.2.2]⟩
      have hu:r1.extract n r1.size=u:=HU.out
      clear c0 f0 hx hl hR1 hF1 hT hb2
      obtain ⟨c0,f0⟩:=Rc.cell1 HR2.out.blk
      go_wp2_with fail
      go_ret2
      exact .inl ⟨t,rfl,HX.out.1,u,HX.out.2.2,HR2.out.set u HX.out.2.1,HF2.out.trans (Rc.Fr.set _ _ _ _ rfl)⟩
  · have HNO:Hid (Rc.Rno w0 g r w Wc.txt (fun t=>t.size≤m) w1):=⟨fun x t hx e=>hno x.size (x.data.toList++t) hx (by rw [e,Wc.txt,List.append_assoc]),r1,hR1,hF1⟩
    clear hno hR1 hF1 hT
    go_wp2_with fail
    go_ret2
    exact .inr ⟨a,rfl,HNO.out⟩
end Go.Proofs.YtbkhedpabfanoaaGreatDoor
