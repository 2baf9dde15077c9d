import Derived.Test.YtlcckaffhnjneaaGreatDoorKScanL
import Derived.Test.YtlcckaffhnjneaaGreatDoorShelf
import Derived.Lib.IndexAny
import Derived.Lib.ParseIntBCases
set_option maxRecDepth 100000
set_option maxHeartbeats 1000000
namespace Go.Proofs.YtlcckaffhnjneaaGreatDoor
open Go.RowKit
def Mill.hexB (b:Int):Int:=if 0≤Mill.hex b then Mill.hex b else 0
theorem Mill.ret_hex {b x:Int} {ok:Bool} (h:x=Mill.hexB b∧ok=decide (0≤Mill.hex b)):Ending.returned (.tuple #[.int .u8 x,.bool ok]) = .returned (.tuple #[.int .u8 (Mill.hexB b),.bool (decide (0≤Mill.hex b))]):=by rw [h.1,h.2]
theorem Mill.hex_dig {b:Int} (h1:48≤b) (h2:b≤57):b - 48=Mill.hexB b∧true=decide (0≤Mill.hex b):=by
 have:Mill.hex b=b - 48:=by unfold Mill.hex;rw [if_pos ⟨h1,h2⟩]
 rw [Mill.hexB,this,if_pos (by omega)];simp;omega
theorem Mill.hex_let {b:Int} (h1:97≤b) (h2:b≤102):b - 97+10=Mill.hexB b∧true=decide (0≤Mill.hex b):=by
 have:Mill.hex b=b - 97+10:=by unfold Mill.hex;rw [if_neg (by omega),if_pos ⟨h1,h2⟩]
 rw [Mill.hexB,this,if_pos (by omega)];simp;omega
theorem Mill.hex_no {b:Int} (h1:¬ (48≤b∧b≤57)) (h2:¬ (97≤b∧b≤102)):0=Mill.hexB b∧false=decide (0≤Mill.hex b):=by
 have:Mill.hex b = -1:=by unfold Mill.hex;rw [if_neg h1,if_neg h2]
 rw [Mill.hexB,this];simp
theorem hexDigit_any (b:Int) (h0:0≤b) (h1:b≤255) (w:World) :
  Calls Tryz.prog 135 #[.int .u8 b] w fun e w'=>e = .returned (.tuple #[.int .u8 (Mill.hexB b),.bool (decide (0≤Mill.hex b))])∧w=w':=by
 go_enter Tryz.func135,Tryz.ntmps135
 go_wp2
 all_goals go_ret2
 ·exact ⟨Mill.ret_hex (Mill.hex_dig (by assumption) (by assumption)),rfl⟩
 ·exact ⟨Mill.ret_hex (Mill.hex_let (by assumption) (by assumption)),rfl⟩
 all_goals exact ⟨Mill.ret_hex (Mill.hex_no (by omega) (by omega)),rfl⟩
theorem hexDigit_byte (c:UInt8) (w:World) :
  Calls Tryz.prog 135 #[.int .u8 (c.toNat:Int)] w fun e w'=>e = .returned (.tuple #[.int .u8 (Mill.hexB (c.toNat:Int)),.bool (decide (0≤Mill.hexOf c))])∧w=w' :=
 hexDigit_any _ (by omega) (by have:=c.toNat_lt;omega) w
def Mill.rbOk (s:ByteArray):Bool:=match s.data.toList with
 | a::b::_=>decide (0≤Mill.hexOf a) && decide (0≤Mill.hexOf b)
 | _=>false
def Mill.rbVal (s:ByteArray):Int:=match s.data.toList with
 | a::b::_=>16 * Mill.hexOf a+Mill.hexOf b
 | _=>0
theorem readByte_no (s:ByteArray) (w:World) (h:Mill.rbOk s=false) :
  Calls Tryz.prog 116 #[.string s] w fun e w'=>e = .returned (.tuple #[.int .u8 0,.bool false])∧w=w':=by
 by_cases h2:2≤s.size
 ·have hd0:=Mill.drop_cons s 0 (by omega)
  have hd1:=Mill.drop_cons s 1 (by omega)
  simp only [List.drop_zero,Nat.zero_add] at hd0
  rw [hd1] at hd0
  rw [Mill.rbOk,hd0] at h
  simp only at h
  cases hA:decide ((0:Int)≤Mill.hexOf s[0]) <;> cases hB:decide ((0:Int)≤Mill.hexOf s[1])
  all_goals try (exfalso;simp [hA,hB] at h;done)
  all_goals
   clear h hd0 hd1
   go_enter Tryz.func116,Tryz.ntmps116
   go_wp2_with (go_at_call 135;refine (hexDigit_byte _ _).mono ?_;rintro e w' ⟨rfl,rfl⟩;first | rw [hA] | rw [hB])
   go_ret2
   exact ⟨rfl,rfl⟩
 ·clear h
  go_enter Tryz.func116,Tryz.ntmps116
  go_wp2
  go_ret2
  exact ⟨rfl,rfl⟩
theorem or_hex (a b:Int) (ha:0≤a) (ha2:a≤15) (hb:0≤b) (hb2:b≤15):bits BinOp.or IntKind.u8 (a * 16) b=16 * a+b:=by
 obtain ⟨m,rfl⟩:=Int.eq_ofNat_of_zero_le ha
 obtain ⟨n,rfl⟩:=Int.eq_ofNat_of_zero_le hb
 have h:∀ m:Fin 16,∀ n:Fin 16,bits BinOp.or IntKind.u8 ((m.val:Int) * 16) (n.val:Int)=16 * (m.val:Int)+(n.val:Int):=by decide +kernel
 exact h ⟨m,by omega⟩ ⟨n,by omega⟩
theorem Mill.ret_rb {x y:Int} (h:x=y):Ending.returned (.tuple #[.int .u8 x,.bool true]) = .returned (.tuple #[.int .u8 y,.bool true]):=by rw [h]
theorem readByte_yes (s:ByteArray) (w:World) (h:Mill.rbOk s=true) :
  Calls Tryz.prog 116 #[.string s] w fun e w'=>e = .returned (.tuple #[.int .u8 (Mill.rbVal s),.bool true])∧w=w':=by
 have h2:2≤s.size:=by
  rw [Mill.rbOk] at h
  split at h
  ·rename_i a b r hl
   have:s.data.toList.length=(a::b::r).length:=by rw [hl]
   simp at this;omega
  ·simp at h
 have hd0:=Mill.drop_cons s 0 (by omega)
 have hd1:=Mill.drop_cons s 1 (by omega)
 simp only [List.drop_zero,Nat.zero_add] at hd0
 rw [hd1] at hd0
 rw [Mill.rbOk,hd0] at h
 simp only at h
 have HV:Hid ((16:Int) * Mill.hexOf s[0]+Mill.hexOf s[1]=Mill.rbVal s):=by rw [Hid,Mill.rbVal,hd0]
 rw [Bool.and_eq_true] at h
 obtain ⟨hA,hB⟩:=h
 have a0:=of_decide_eq_true hA
 have b0:=of_decide_eq_true hB
 have a1:Mill.hexOf s[0]≤15:=(Mill.hex_bd (s[0].toNat:Int)).2
 have b1:Mill.hexOf s[1]≤15:=(Mill.hex_bd (s[1].toNat:Int)).2
 have eA:Mill.hexB (s[0].toNat:Int)=Mill.hexOf s[0]:=by rw [Mill.hexB,if_pos (show (0:Int)≤Mill.hex (s[0].toNat:Int) from a0)];rfl
 have eB:Mill.hexB (s[1].toNat:Int)=Mill.hexOf s[1]:=by rw [Mill.hexB,if_pos (show (0:Int)≤Mill.hex (s[1].toNat:Int) from b0)];rfl
 have HA:Hid (Mill.hexB (s[0].toNat:Int)=Mill.hexOf s[0]):=eA
 have HB:Hid (Mill.hexB (s[1].toNat:Int)=Mill.hexOf s[1]):=eB
 clear hd0 hd1 eA eB
 go_enter Tryz.func116,Tryz.ntmps116
 go_wp2_with (go_at_call 135;refine (hexDigit_byte _ _).mono ?_;rintro e w' ⟨rfl,rfl⟩;first | (rw [hA,HA.out]) | (rw [hB,HB.out]))
 go_ret2
 exact ⟨Mill.ret_rb ((or_hex _ _ a0 a1 b0 b1).trans HV.out),rfl⟩
def Mill.pieceV (p:Mill.Piece):Value:=.agg #[.int .i64 p.kind,.string (Mill.ba p.text),.int .i64 p.type,.int .i64 p.n,.int .i64 0,.int .i64 (p.size:Int),.int .i64 p.code]
theorem Clone_any (s:ByteArray) (w:World) (hs:s.size≤1048576) :
  Calls Tryz.prog 88 #[.string s] w fun e w'=>e = .returned (.string s)∧Below w.heap.size w w':=by
 go_enter Tryz.func88,Tryz.ntmps88
 go_wp2_with (go_at_call 112;refine (Tryz.stringslite_Clone _ _ (by omega)).mono ?_;rintro e w1 ⟨rfl,hb⟩)
 go_ret
 exact ⟨rfl,hb⟩
def Mill.twos : List (List UInt8):=[[45,62],[61,61],[33,61],[60,61],[62,61],[60,60],[62,62],[38,38],[124,124]]
def Mill.shorts : List UInt8:=[40,41,123,125,44,59,61,60,62,43,45,42,47,37,38,124,94,33,126]
theorem Mill.marks_split : Mill.marks=Mill.twos++Mill.shorts.map (fun c=>[c]):=by decide
def Mill.msize (l:List UInt8):Nat:=(Mill.markP l).size
theorem Mill.markP_eq (l:List UInt8):Mill.markP l=if Mill.msize l=0 then Mill.bad 2 else ⟨5,l.take (Mill.msize l),0,0,Mill.msize l,0⟩:=by
 unfold Mill.msize Mill.markP
 cases h:Mill.marks.find? (Mill.markAt l) with
 | none=>rfl
 | some m =>
  have hm:=Mill.mark_pos m (List.mem_of_find?_eq_some h)
  have hq:=List.find?_some h
  simp [Mill.markAt] at hq
  simp only
  rw [if_neg (by omega),hq.2]
theorem Mill.msize_two (l:List UInt8) (h2:2≤l.length) (hm:l.take 2 ∈ Mill.twos):Mill.msize l=2:=by
 have hl:∀ m ∈ Mill.twos,m.length=2:=by decide
 have hf:∃ m,Mill.twos.find? (Mill.markAt l)=some m:=by
  cases h:Mill.twos.find? (Mill.markAt l) with
  | some m=>exact ⟨m,rfl⟩
  | none =>
   have:=List.find?_eq_none.1 h _ hm
   simp [Mill.markAt,h2] at this
 obtain ⟨m,hf⟩:=hf
 have hmm:=hl m (List.mem_of_find?_eq_some hf)
 rw [Mill.msize,Mill.markP,Mill.marks_split,List.find?_append,hf]
 exact hmm
theorem Mill.find_short (c:UInt8) (r:List UInt8):∀ q:List UInt8,(q.map (fun c=>[c])).find? (Mill.markAt (c::r))=if c ∈ q then some [c] else none
 | []=>by simp
 | a::q=>by
  rw [List.map_cons,List.find?_cons]
  have he:Mill.markAt (c::r) [a]=(c == a):=by simp [Mill.markAt]
  rw [he]
  by_cases h:c=a
  ·subst h;simp
  ·have h':(c == a)=false:=by simpa using h
   rw [h',Mill.find_short c r q]
   simp [h]
theorem Mill.msize_short (c:UInt8) (r:List UInt8) (h:2≤(c::r).length→(c::r).take 2 ∉ Mill.twos):Mill.msize (c::r)=if c ∈ Mill.shorts then 1 else 0:=by
 have hf:Mill.twos.find? (Mill.markAt (c::r))=none:=by
  rw [List.find?_eq_none]
  intro m hm hq
  have hl:∀ m ∈ Mill.twos,m.length=2:=by decide
  have h2:=hl m hm
  simp only [Mill.markAt,Bool.and_eq_true,decide_eq_true_eq,h2,beq_iff_eq] at hq
  exact h hq.1 (by rw [hq.2];exact hm)
 rw [Mill.msize,Mill.markP,Mill.marks_split,List.find?_append,hf,Option.none_or,Mill.find_short]
 split <;> rename_i hq
 ·split at hq
  ·rename_i hc;simp at hq;rw [← hq,if_pos hc];rfl
  ·simp at hq
 ·split at hq
  ·simp at hq
  ·rename_i hc;rw [if_neg hc];rfl
theorem Mill.short_ix (c:UInt8):decide (0≤Lib.indexByte Mill.shorts c)=decide (c ∈ Mill.shorts):=by
 rw [← Lib.contains_iff_indexByte];simp
theorem markSize_two (s:ByteArray) (w:World) (h2:2≤s.size) (hm:s.data.toList.take 2 ∈ Mill.twos) :
  Calls Tryz.prog 92 #[.string s] w fun e w'=>e = .returned (.int .i64 2)∧w=w':=by
 have hx:(s.extract 0 2).toList=s.data.toList.take 2:=by rw [ByteArray.toList_eq,Lib.extract_data];simp
 generalize s.data.toList.take 2=two at *
 simp only [Mill.twos,List.mem_cons,List.not_mem_nil,or_false] at hm
 rcases hm with rfl | rfl | rfl | rfl | rfl | rfl | rfl | rfl | rfl
 all_goals
  go_enter Tryz.func92,Tryz.ntmps92
  go_wp2
  go_ret
  exact ⟨rfl,rfl⟩
theorem Mill.byte_back (c:UInt8):((c.toNat:Int)).toNat.toUInt8=c:=by simp
theorem shortIx_calls (c:UInt8) (w:World):Calls Tryz.prog 58 #[.string ⟨#[40,41,123,125,44,59,61,60,62,43,45,42,47,37,38,124,94,33,126]⟩,.int .u8 (c.toNat:Int)] w fun e w'=>e = .returned (.int .i64 (Lib.indexByte Mill.shorts c))∧w=w':=by
 refine (Tryz.strings_IndexByte _ _ w).mono ?_
 rintro e w' ⟨rfl,rfl⟩
 exact ⟨by rw [Mill.byte_back];rfl,rfl⟩
theorem markSize_short (s:ByteArray) (w:World) (h1:1≤s.size) (hn:2≤s.size→s.data.toList.take 2 ∉ Mill.twos) :
  Calls Tryz.prog 92 #[.string s] w fun e w'=>e = .returned (.int .i64 (if s[0] ∈ Mill.shorts then 1 else 0))∧w=w':=by
 have hI:=Mill.short_ix s[0]
 obtain ⟨I,HI⟩:∃ I,Hid (Lib.indexByte Mill.shorts s[0]=I):=⟨_,(rfl:Lib.indexByte Mill.shorts s[0]=_)⟩
 rw [HI.out] at hI
 by_cases h2:2≤s.size
 ·have hx:(s.extract 0 2).toList=s.data.toList.take 2:=by rw [ByteArray.toList_eq,Lib.extract_data];simp
  replace hn:=hn h2
  generalize s.data.toList.take 2=two at *
  have n0:(two == [45,62])=false:=by simp;intro e;exact hn (by rw [e];decide)
  have n1:(two == [61,61])=false:=by simp;intro e;exact hn (by rw [e];decide)
  have n2:(two == [33,61])=false:=by simp;intro e;exact hn (by rw [e];decide)
  have n3:(two == [60,61])=false:=by simp;intro e;exact hn (by rw [e];decide)
  have n4:(two == [62,61])=false:=by simp;intro e;exact hn (by rw [e];decide)
  have n5:(two == [60,60])=false:=by simp;intro e;exact hn (by rw [e];decide)
  have n6:(two == [62,62])=false:=by simp;intro e;exact hn (by rw [e];decide)
  have n7:(two == [38,38])=false:=by simp;intro e;exact hn (by rw [e];decide)
  have n8:(two == [124,124])=false:=by simp;intro e;exact hn (by rw [e];decide)
  clear hn
  by_cases hc:s[0] ∈ Mill.shorts
  ·rw [if_pos hc]
   have hi:0≤I:=by simpa [hc] using hI
   clear hI hc
   go_enter Tryz.func92,Tryz.ntmps92
   go_wp2_with (go_at_call 58;refine (shortIx_calls _ _).mono ?_;rintro e w' ⟨rfl,rfl⟩;rw [HI.out])
   go_ret
   exact ⟨rfl,rfl⟩
  ·rw [if_neg hc]
   have hi:I < 0:=by simpa [hc] using hI
   clear hI hc
   go_enter Tryz.func92,Tryz.ntmps92
   go_wp2_with (go_at_call 58;refine (shortIx_calls _ _).mono ?_;rintro e w' ⟨rfl,rfl⟩;rw [HI.out])
   go_ret
   exact ⟨rfl,rfl⟩
 ·clear hn
  by_cases hc:s[0] ∈ Mill.shorts
  ·rw [if_pos hc]
   have hi:0≤I:=by simpa [hc] using hI
   clear hI hc
   go_enter Tryz.func92,Tryz.ntmps92
   go_wp2_with (go_at_call 58;refine (shortIx_calls _ _).mono ?_;rintro e w' ⟨rfl,rfl⟩;rw [HI.out])
   go_ret
   exact ⟨rfl,rfl⟩
  ·rw [if_neg hc]
   have hi:I < 0:=by simpa [hc] using hI
   clear hI hc
   go_enter Tryz.func92,Tryz.ntmps92
   go_wp2_with (go_at_call 58;refine (shortIx_calls _ _).mono ?_;rintro e w' ⟨rfl,rfl⟩;rw [HI.out])
   go_ret
   exact ⟨rfl,rfl⟩
theorem Mill.list_cons (s:ByteArray) (h:1≤s.size):s.data.toList=s[0]::s.data.toList.drop 1:=by
 have:=Mill.drop_cons s 0 (by omega);simpa using this
theorem markSize_any (s:ByteArray) (w:World) (h1:1≤s.size) :
  Calls Tryz.prog 92 #[.string s] w fun e w'=>e = .returned (.int .i64 (Mill.msize s.data.toList:Int))∧w=w':=by
 by_cases h:2≤s.size∧s.data.toList.take 2 ∈ Mill.twos
 ·rw [Mill.msize_two _ (by simpa using h.1) h.2]
  exact markSize_two s w h.1 h.2
 ·have hn:2≤s.size→s.data.toList.take 2 ∉ Mill.twos:=fun a b=>h ⟨a,b⟩
  have e:(Mill.msize s.data.toList:Int)=if s[0] ∈ Mill.shorts then 1 else 0:=by
   have hl:=Mill.list_cons s h1
   have:=Mill.msize_short s[0] (s.data.toList.drop 1) (by rw [← hl];intro h2;exact hn (by simpa using h2))
   rw [← hl] at this
   rw [this];split <;> rfl
  rw [e]
  exact markSize_short s w h1 hn
end Go.Proofs.YtlcckaffhnjneaaGreatDoor
namespace Go.Proofs.YtlcckaffhnjneaaGreatDoor
open Go.RowKit Go.Maps Go.WideMaps
theorem Mill.msize_le (l:List UInt8):Mill.msize l≤l.length:=by
 unfold Mill.msize Mill.markP
 cases h:Mill.marks.find? (Mill.markAt l) with
 | none=>simp [Mill.bad]
 | some m =>
  have hq:=List.find?_some h
  simp [Mill.markAt] at hq
  exact hq.1
theorem Mill.below7 {w w1:World} (B:Nat) (hB:B≤w.heap.size) (o:Obj) (hb:Below (w.alloc o).heap.size (w.alloc o) w1) (c0 c1 c2 c3 c4 c5 c6:Value) :
  Below B w (((((((w1.setCell ⟨w.heap.size,0,none⟩ c0).setCell ⟨w.heap.size,1,none⟩ c1).setCell ⟨w.heap.size,2,none⟩ c2).setCell ⟨w.heap.size,3,none⟩ c3).setCell ⟨w.heap.size,4,none⟩ c4).setCell ⟨w.heap.size,5,none⟩ c5).setCell ⟨w.heap.size,6,none⟩ c6) :=
 ((Mill.below5 B hB o hb c0 c1 c2 c3 c4).setCell (p:=⟨w.heap.size,5,none⟩) hB _).setCell (p:=⟨w.heap.size,6,none⟩) hB _
theorem readMark_any (s:ByteArray) (w:World) (h1:1≤s.size) (hs:s.size≤1048576) :
  Calls Tryz.prog 64 #[.string s] w fun e w'=>e = .returned (Mill.pieceV (Mill.markP s.data.toList))∧Below w.heap.size w w':=by
 have hle:=Mill.msize_le s.data.toList
 simp at hle
 have hmp:=Mill.markP_eq s.data.toList
 obtain ⟨n,HN⟩:∃ n,Hid (Mill.msize s.data.toList=n):=⟨_,(rfl:Mill.msize s.data.toList=_)⟩
 rw [HN.out] at hle hmp
 by_cases h0:n=0
 ·subst h0
  rw [if_pos rfl] at hmp
  have HP:Hid (Mill.pieceV (Mill.markP s.data.toList)=Mill.pieceV (Mill.bad 2)):=by rw [Hid,hmp]
  clear hmp
  go_enter Tryz.func64,Tryz.ntmps64
  go_wp2_with (go_at_call 92;refine (markSize_any _ _ h1).mono ?_;rintro e w' ⟨rfl,rfl⟩;rw [HN.out])
  refine bodyPost_ret (v:=Mill.pieceV (Mill.bad 2)) (by simp [results,Tryz.results64,go_sem,Mill.pieceV,Mill.bad,Mill.ba]) rfl ⟨Mill.ret_val HP.out.symm,(Below.refl _ w).alloc (Nat.le_refl _) _⟩
 ·rw [if_neg h0] at hmp
  have HP:Hid (Mill.pieceV (Mill.markP s.data.toList) = .agg #[.int .i64 5,.string (s.extract 0 n),.int .i64 0,.int .i64 0,.int .i64 0,.int .i64 (n:Int),.int .i64 0]):=by
   rw [Hid,hmp,Mill.extract_ba];simp [Mill.pieceV]
  have hn0:((n:Int) == 0)=false:=by simp;omega
  have hxs:(s.extract 0 n).size≤1048576:=by rw [Mill.extract_ba,Mill.ba_size];simp;omega
  clear hmp
  go_enter Tryz.func64,Tryz.ntmps64
  go_wp2_with (first
   | (go_at_call 92;refine (markSize_any _ _ h1).mono ?_;rintro e w' ⟨rfl,rfl⟩;rw [HN.out])
   | (go_at_call 88;refine (Clone_any _ _ hxs).mono ?_;rintro e w1 ⟨rfl,hb⟩;obtain ⟨hc,hf⟩:=Mill.bcell hb;have hz:=hb.size;simp at hz))
  refine bodyPost_ret (v:=.agg #[.int .i64 5,.string (s.extract 0 n),.int .i64 0,.int .i64 0,.int .i64 0,.int .i64 (n:Int),.int .i64 0]) (by simp [results,Tryz.results64,go_sem,hc]) rfl ⟨Mill.ret_val HP.out.symm,Mill.below7 _ (Nat.le_refl _) _ hb _ _ _ _ _ _ _⟩
end Go.Proofs.YtlcckaffhnjneaaGreatDoor
namespace Go.Proofs.YtlcckaffhnjneaaGreatDoor
open Go.RowKit Go.Maps Go.WideMaps
theorem Mill.map_below {H:Type} {P:Program} {k:TypeId} {R:Value→Option (DataW H × List MemPlace)} {b n:Nat} {D:DataW H} {w w':World} (h:w.ownsMap P k R b n D) (hb:Below w.heap.size w w'):w'.ownsMap P k R b n D:=by
 have hlt:=h.lt
 obtain ⟨es,clock,h0,rest⟩:=h
 exact ⟨es,clock,(hb.block b hlt).trans h0,rest⟩
theorem Mill.taken_len (k:List UInt8) (h:Mill.taken (Mill.ba k)=true):k.length≤30:=by
 rw [Mill.taken_mem] at h
 have:∀ x ∈ Mill.wordList.map Prod.fst,x.length≤30:=by decide
 exact this k h
def Mill.Words (w:World) (b:Nat):Prop:=w.ownsMap Tryz.prog 9 (plainElem Tryz.prog 3) b 35 Mill.wordsD
theorem Mill.wlen0 (s:ByteArray):Mill.wlen s 0=(Mill.wordOf s.data.toList).length:=by simp [Mill.wlen]
theorem Mill.word_ba0 (s:ByteArray):s.extract 0 (Mill.wlen s 0)=Mill.ba (Mill.wordOf s.data.toList):=by
 have:=Mill.word_ba s 0 (Mill.wlen s 0) (by omega);simpa using this
theorem readName_any (s:ByteArray) (b:Nat) (w:World) (hs:s.size≤1048576) (hM:Mill.Words w b) :
  Calls Tryz.prog 60 #[.string s,.map (some b)] w fun e w'=>e = .returned (Mill.pieceV (Mill.nameP (Mill.wordOf s.data.toList)))∧Below w.heap.size w w':=by
 have hle:=Mill.wlen_le s 0
 have hwb:=Mill.word_ba0 s
 have hwl:=Mill.wlen0 s
 obtain ⟨n,HN⟩:∃ n,Hid (Mill.wlen s 0=n):=⟨_,(rfl:Mill.wlen s 0=_)⟩
 rw [HN.out] at hle hwb hwl
 obtain ⟨W,HW⟩:∃ W,Hid (Mill.wordOf s.data.toList=W):=⟨_,(rfl:Mill.wordOf s.data.toList=_)⟩
 rw [HW.out] at hwb hwl
 have hbs:=hM.lt
 by_cases h30:30 < n
 ·have ht:¬ Mill.taken (Mill.ba W)=true:=fun h=>by have:=Mill.taken_len W h;omega
  have HP:Hid (Mill.pieceV (Mill.nameP (Mill.wordOf s.data.toList))=Mill.pieceV (Mill.bad 5)):=by rw [Hid,HW.out,Mill.nameP,if_neg ht,if_pos (by omega)]
  clear hwb hwl ht
  go_enter Tryz.func60,Tryz.ntmps60
  go_wp2_with (go_at_call 87;refine (wordSize_any _ _ hs).mono ?_;rintro e w1 ⟨rfl,hb⟩;rw [HN.out];obtain ⟨hc,hf⟩:=Mill.bcell hb;have hz:=hb.size;simp at hz)
  refine bodyPost_ret (v:=Mill.pieceV (Mill.bad 5)) (by simp [results,Tryz.results60,go_sem,hc,Mill.pieceV,Mill.bad,Mill.ba]) rfl ⟨Mill.ret_val HP.out.symm,Mill.below7 _ (Nat.le_refl _) _ hb _ _ _ _ _ _ _⟩
 ·have hxs:(s.extract 0 n).size≤1048576:=by rw [hwb,Mill.ba_size];omega
  have hxm:(s.extract 0 n).size≤maxLen:=by unfold maxLen;omega
  have hdl:(s.extract 0 n).data.toList=W:=by rw [hwb];rfl
  have HH:Hid (Maps.has Mill.wordsD (.string (s.extract 0 n).data.toList)=Mill.taken (Mill.ba W)):=by rw [Hid,hdl];exact Mill.words_has W
  cases htk:Mill.taken (Mill.ba W)
  all_goals
   first
   | (have HP:Hid (Mill.pieceV (Mill.nameP (Mill.wordOf s.data.toList)) = .agg #[.int .i64 2,.string (s.extract 0 n),.int .i64 0,.int .i64 0,.int .i64 0,.int .i64 (n:Int),.int .i64 0]):=by rw [Hid,HW.out,Mill.nameP,if_pos htk,Mill.pieceV,← hwb,hwl])
   | (have HP:Hid (Mill.pieceV (Mill.nameP (Mill.wordOf s.data.toList)) = .agg #[.int .i64 1,.string (s.extract 0 n),.int .i64 0,.int .i64 0,.int .i64 0,.int .i64 (n:Int),.int .i64 0]):=by rw [Hid,HW.out,Mill.nameP,if_neg (by simp [htk]),if_neg (by omega),Mill.pieceV,← hwb,hwl])
   rw [htk] at HH
   clear hwb hwl hdl htk
   go_enter Tryz.func60,Tryz.ntmps60
   go_wp2_with (first
    | (go_at_call 87;refine (wordSize_any _ _ hs).mono ?_;rintro e w1 ⟨rfl,hb⟩;rw [HN.out];have hz:=hb.size;simp at hz;have hM1:=Mill.map_below (hM.alloc _) hb)
    | (at_lookup;refine wpList_lookup_own_ok_int _ rfl _ _ 102 rfl 9 3 .i64 Tryz.lawStr Tryz.underlying102 Tryz.underlying3 (Tryz.zeroInt _) b 35 _ rfl hM1 _ _ rfl (keyOf_string_mk Tryz.underlying9 hxm) ?_;intro c hat hwc;rw [HH.out])
    | (go_at_call 88;refine (Clone_any _ _ hxs).mono ?_;rintro e w2 ⟨rfl,hb2⟩;have hbb:=hb.trans (hb2.mono (B':=(w.alloc _).heap.size) (by simp;omega));obtain ⟨hc,hf⟩:=Mill.bcell hbb;have hz2:=hb2.size))
   first
   | (refine bodyPost_ret (v:=.agg #[.int .i64 2,.string (s.extract 0 n),.int .i64 0,.int .i64 0,.int .i64 0,.int .i64 (n:Int),.int .i64 0]) (by simp [results,Tryz.results60,go_sem,hc]) rfl ⟨Mill.ret_val HP.out.symm,Mill.below7 _ (Nat.le_refl _) _ hbb _ _ _ _ _ _ _⟩)
   | (refine bodyPost_ret (v:=.agg #[.int .i64 1,.string (s.extract 0 n),.int .i64 0,.int .i64 0,.int .i64 0,.int .i64 (n:Int),.int .i64 0]) (by simp [results,Tryz.results60,go_sem,hc]) rfl ⟨Mill.ret_val HP.out.symm,Mill.below7 _ (Nat.le_refl _) _ hbb _ _ _ _ _ _ _⟩)
open Go.RowKit
def Mill.val (a:Nat) (l:List UInt8):Nat:=l.foldl (fun a c=>a * 10+(c.toNat - 48)) a
theorem Mill.val_nil (a:Nat):Mill.val a []=a:=rfl
theorem Mill.val_cons (a:Nat) (c:UInt8) (r:List UInt8):Mill.val a (c::r)=Mill.val (a * 10+(c.toNat - 48)) r:=by simp only [Mill.val,List.foldl_cons]
theorem Mill.mem_tw {α:Type} (p:α→Bool) (c:α):∀ l:List α,c ∈ l.takeWhile p→p c=true
 | [],h=>by simp at h
 | a::r,h=>by
  cases ha:p a with
  | false=>simp [ha] at h
  | true =>
   simp [ha] at h
   rcases h with rfl | h
   ·exact ha
   ·exact Mill.mem_tw p c r h
theorem Mill.val_ge : ∀ (l:List UInt8) (a:Nat),a * 10 ^ l.length≤Mill.val a l
 | [],a=>by simp [Mill.val_nil]
 | c::r,a=>by
  have:=Mill.val_ge r (a * 10+(c.toNat - 48))
  rw [Mill.val_cons,List.length_cons,Nat.pow_succ]
  have h:a * (10 ^ r.length * 10)≤(a * 10+(c.toNat - 48)) * 10 ^ r.length:=by
   rw [show a * (10 ^ r.length * 10)=a * 10 * 10 ^ r.length by rw [Nat.mul_comm (10 ^ r.length) 10,Nat.mul_assoc]]
   exact Nat.mul_le_mul_right _ (by omega)
  omega
theorem Mill.val_le (l:List UInt8) (a:Nat):a≤Mill.val a l:=by
 have:=Mill.val_ge l a
 have h1:1≤10 ^ l.length:=Nat.one_le_pow _ _ (by omega)
 have:=Nat.mul_le_mul_left a h1
 omega
theorem Mill.num_val (mx:Int) (hmx:9≤mx):∀ (l:List UInt8) (a:Nat),(∀ c ∈ l,Mill.isDig c=true)→(a:Int)≤mx→Mill.numOf mx l (a:Int)=if (Mill.val a l:Int)≤mx then some (Mill.val a l:Int) else none
 | [],a,_,ha=>by rw [Mill.numOf,Mill.val_nil,if_pos ha]
 | c::r,a,hd,ha=>by
  have hc:=Mill.digit_bd (hd c (by simp))
  have e:(a:Int) * 10+((c.toNat:Int) - 48)=((a * 10+(c.toNat - 48):Nat):Int):=by omega
  by_cases h:(mx - ((c.toNat:Int) - 48)) / 10 < (a:Int)
  ·rw [Mill.num_bad _ _ _ _ h,Mill.val_cons]
   have:=Mill.val_le r (a * 10+(c.toNat - 48))
   rw [if_neg (by omega)]
  ·rw [Mill.num_ok _ _ _ _ h,e,Mill.num_val mx hmx r _ (fun x hx=>hd x (by simp [hx])) (by omega),Mill.val_cons]
theorem Mill.parse_val : ∀ (l:List UInt8) (a:Nat),(∀ c ∈ l,Mill.isDig c=true)→a < 18446744073709551616→Lib.parseUint10 a l=if Mill.val a l < 18446744073709551616 then .ok (Mill.val a l) else .range
 | [],a,_,ha=>by rw [Lib.parseUint10,Mill.val_nil,if_pos ha]
 | c::r,a,hd,ha=>by
  have hc:=Mill.digit_bd (hd c (by simp))
  have hv:=Mill.val_le r (a * 10+(c.toNat - 48))
  rw [Lib.parseUint10,if_pos (by omega),Mill.val_cons]
  by_cases h1:1844674407370955162≤a
  ·rw [if_pos h1,if_neg (by omega)]
  ·rw [if_neg h1]
   by_cases h2:18446744073709551616≤a * 10+(c.toNat - 48)
   ·rw [if_pos h2,if_neg (by omega)]
   ·rw [if_neg h2,Mill.parse_val r _ (fun x hx=>hd x (by simp [hx])) (by omega)]
theorem Mill.take_dig (l:List UInt8):∀ c ∈ l.take (Mill.digLen l),Mill.isDig c=true:=by
 intro c hc
 rw [Mill.digLen,Mill.takeWhile_take] at hc
 exact Mill.mem_tw _ _ _ hc
theorem Mill.typeOf_bd (k:List UInt8):0≤Mill.typeOf (Mill.ba k)∧Mill.typeOf (Mill.ba k)≤10:=by
 rw [Mill.typeOf_ba]
 repeat' split
 all_goals omega
def Mill.itype (W:List UInt8):Int:=if Mill.digLen W < W.length then Mill.typeOf (Mill.ba (W.drop (Mill.digLen W))) else 10
def Mill.ival (W:List UInt8):Nat:=Mill.val 0 (W.take (Mill.digLen W))
theorem Mill.numType_ba (W:List UInt8):Mill.numType (Mill.ba W) (Mill.digLen W)=Mill.itype W:=by
 unfold Mill.numType Mill.itype
 rw [Mill.ba_size,Mill.extract_ba]
 have e:List.take (W.length - Mill.digLen W) (List.drop (Mill.digLen W) (Mill.ba W).data.toList)=W.drop (Mill.digLen W):=by
  show List.take (W.length - Mill.digLen W) (List.drop (Mill.digLen W) W)=_
  rw [List.take_of_length_le (by simp)]
 rw [e]
theorem Mill.itype_bd (W:List UInt8):0≤Mill.itype W∧Mill.itype W≤10:=by
 unfold Mill.itype
 split
 ·exact Mill.typeOf_bd _
 ·omega
theorem Mill.intRead_ba (W:List UInt8):Mill.intRead (Mill.ba W)=if Mill.intBad (Mill.ba W) (Mill.digLen W) (Mill.itype W)=true then none else if (Mill.ival W:Int)≤Mill.maxOf (Mill.itype W) then some (Mill.itype W,(Mill.ival W:Int)) else none:=by
 have hb:=Mill.maxOf_bd (Mill.itype W)
 have hnv:=Mill.num_val (Mill.maxOf (Mill.itype W)) (by omega) (W.take (Mill.digLen W)) 0 (Mill.take_dig W) (by omega)
 have e:Mill.intRead (Mill.ba W)=if Mill.intBad (Mill.ba W) (Mill.digLen W) (Mill.numType (Mill.ba W) (Mill.digLen W))=true then none
  else (Mill.numOf (Mill.maxOf (Mill.numType (Mill.ba W) (Mill.digLen W))) (W.take (Mill.digLen W)) 0).map (fun n=>(Mill.numType (Mill.ba W) (Mill.digLen W),n)):=rfl
 rw [e,Mill.numType_ba]
 have e0:((0:Nat):Int)=0:=rfl
 rw [e0] at hnv
 rw [hnv]
 split
 ·rfl
 ·show Option.map _ (if (Mill.ival W:Int)≤_ then some (Mill.ival W:Int) else none)=_
  split <;> rfl
def Mill.ibad (W:List UInt8):Prop:=(1 < Mill.digLen W∧W.head? = some 48)∨Mill.itype W < 3∨Mill.maxOf (Mill.itype W) < (Mill.ival W:Int)
theorem Mill.head_dig (W:List UInt8) (h:1≤Mill.digLen W):∃ c r,W=c::r∧Mill.isDig c=true:=by
 cases W with
 | nil=>simp [Mill.digLen] at h
 | cons c r =>
  cases hc:Mill.isDig c with
  | true=>exact ⟨c,r,rfl,hc⟩
  | false=>simp [Mill.digLen,hc] at h
theorem Mill.long_val (W:List UInt8) (h:20 < Mill.digLen W) (hh:W.head? ≠ some 48):100000000000000000000≤Mill.ival W:=by
 obtain ⟨c,r,rfl,hc⟩:=Mill.head_dig W (by omega)
 have hcb:=Mill.digit_bd hc
 have hne:c≠48:=by simpa using hh
 have hct:49≤c.toNat:=by
  have:c.toNat≠48:=fun e=>hne (UInt8.toNat_inj.1 (by simpa using e))
  omega
 have hlen:(List.take (Mill.digLen (c::r)) (c::r)).length=Mill.digLen (c::r):=by
  rw [List.length_take];have:=Mill.tw_le Mill.isDig (c::r);simp only [Mill.digLen] at *;omega
 unfold Mill.ival
 generalize hD:Mill.digLen (c::r)=D at *
 obtain ⟨D,rfl⟩:∃ d,D=d+1:=⟨D - 1,by omega⟩
 rw [List.take_succ_cons] at hlen ⊢
 simp at hlen
 rw [Mill.val_cons]
 have hv:=Mill.val_ge (List.take D r) (0 * 10+(c.toNat - 48))
 have hl:(List.take D r).length=D:=by simp;omega
 rw [hl] at hv
 have h20:10 ^ 20≤10 ^ D:=Nat.pow_le_pow_right (by omega) (by omega)
 have h1:1 * 10 ^ D≤(0 * 10+(c.toNat - 48)) * 10 ^ D:=Nat.mul_le_mul_right _ (by omega)
 have e20:(10:Nat) ^ 20=100000000000000000000:=by decide
 omega
theorem Mill.intP_bad (W:List UInt8) (h:Mill.ibad W):Mill.intP W=Mill.bad 3:=by
 unfold Mill.intP
 rw [Mill.intRead_ba]
 have hd:(Mill.ba W).data.toList=W:=rfl
 rcases h with h | h | h
 ·rw [if_pos (by simp [Mill.intBad,hd,h])]
 ·rw [if_pos (by simp [Mill.intBad];omega)]
 ·split
  ·rename_i hq;rfl
  ·rename_i t n hq
   split at hq
   ·simp at hq
   ·rw [if_neg (by omega)] at hq;simp at hq
theorem Mill.intP_ok (W:List UInt8) (h:¬ Mill.ibad W):Mill.intP W=⟨3,[],Mill.itype W,wrap64 (Mill.ival W:Int),W.length,0⟩:=by
 have hb:=Mill.itype_bd W
 have hmx:=Mill.maxOf_bd (Mill.itype W)
 unfold Mill.ibad at h
 have h1:¬ (1 < Mill.digLen W∧W.head? = some 48):=fun a=>h (.inl a)
 have h2:¬ Mill.itype W < 3:=fun a=>h (.inr (.inl a))
 have h3:¬ Mill.maxOf (Mill.itype W) < (Mill.ival W:Int):=fun a=>h (.inr (.inr a))
 have h20:¬ 20 < Mill.digLen W:=fun a=>by
  have:=Mill.long_val W a (fun e=>h1 ⟨by omega,e⟩)
  omega
 have hd:(Mill.ba W).data.toList=W:=rfl
 have hf:Mill.intBad (Mill.ba W) (Mill.digLen W) (Mill.itype W)=false:=by
  simp only [Mill.intBad,hd]
  have a1:(decide (3≤Mill.itype W) && decide (Mill.itype W≤10))=true:=by simp;omega
  have a2:decide (20 < Mill.digLen W)=false:=by simp;omega
  have a3:(decide (1 < Mill.digLen W) && (W.head? == some 48))=false:=by
   by_cases hk:1 < Mill.digLen W
   ·have:W.head? ≠ some 48:=fun e=>h1 ⟨hk,e⟩
    simp [hk];exact this
   ·simp [hk]
  rw [a1,a2,a3];rfl
 unfold Mill.intP
 rw [Mill.intRead_ba,hf,if_neg (by simp),if_pos (by omega)]
end Go.Proofs.YtlcckaffhnjneaaGreatDoor
