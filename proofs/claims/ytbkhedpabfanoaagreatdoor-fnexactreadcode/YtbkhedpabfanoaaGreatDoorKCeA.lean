import Derived.Test.YtbkhedpabfanoaaGreatDoorKCdA
import Derived.WalkKit
import Derived.WalkSpells
import Derived.WalkLawsBesides
import Derived.Carry
import Derived.OwnWalk
import Derived.Lib.ConvBytes
import Derived.Laws.IdiomStrings
import Derived.Test.YtbkhedpabfanoaaGreatDoorKCdN
namespace Go.Proofs.YtbkhedpabfanoaaGreatDoor
open Go.RowKit

theorem Cd.belowD' {B:Nat} {a w:World} (n:Nat) (h:Below B a w):Below B a (w.drewN n):=⟨h.os,h.tape,h.output,h.size,h.block⟩
def Cd.agB (a b:List UInt8):List UInt8:=List.zipWith (fun x y=>if x=y then x else 0) a b
theorem Cd.agB_self : ∀ a:List UInt8,Cd.agB a a=a
  | []=>rfl
  | x::r=>by
    have h:=Cd.agB_self r
    unfold Cd.agB at h ⊢
    simp
set_option maxRecDepth 100000 in
set_option maxHeartbeats 1000000 in
theorem Cd.agreed_any (a b:ByteArray) (h:a.size=b.size) (hs:a.size≤1048576) (w:World) :
    Calls Tryz.prog 120 #[.string a,.string b] w fun e w'=>e = .returned (.string ⟨(Cd.agB a.data.toList b.data.toList).toArray⟩)∧Below w.heap.size w w':=by
  have Hsz:Hid (a.size=b.size):=h
  clear h
  by_cases hab:a=b
  · subst hab
    rw [Cd.agB_self]
    go_enter Tryz.func120,Tryz.ntmps120
    go_wp2
    go_ret
    exact ⟨rfl,Below.refl _ _⟩
  · have hne:(a.toList == b.toList)=false:=by
      cases hx:a.toList == b.toList with
      | false=>rfl
      | true =>
        have e:a.toList=b.toList:=by simpa using hx
        rw [ByteArray.toList_eq,ByteArray.toList_eq] at e
        have e2:a.data=b.data:=Array.toList_inj.1 e
        exact (hab (by cases a;cases b;simp at e2;rw [e2])).elim
    clear hab
    have hcv:=Lib.run_convert_string_bytes (P:=Tryz.prog) w 9 57 5 a Tryz.underlying9 Tryz.underlying57 Tryz.underlying5
    obtain ⟨W1,hW1⟩:∃ W,Lib.bytesWorld w 5 a=W:=⟨_,rfl⟩
    rw [hW1] at hcv
    obtain ⟨cp,hcp⟩:∃ cp,grownCap w a.size 0 5=cp:=⟨_,rfl⟩
    rw [hcp] at hcv
    go_enter Tryz.func120,Tryz.ntmps120
    go_wp2
    obtain ⟨n,HN⟩:∃ n,Hid (a.size=n):=⟨_,(rfl:a.size=_)⟩
    have HC0:Hid (∀ j,j < a.size→W1.cell? ⟨w.heap.size,j,none⟩=some (.int .u8 ((a.data.toList.getD j 0).toNat:Int))∧W1.frozen? ⟨w.heap.size,j,none⟩=false):=fun j hj=>by
      rw [← hW1]
      refine ⟨Lib.bytesWorld_cell w _ a j hj, ?_⟩
      have hsz:a.size≤(Lib.bytesCells w 5 a).size:=by simp [Lib.bytesCells]
      simp [World.frozen?,Lib.bytesWorld_at_new]
      omega
    have HB0:Hid (Below w.heap.size w W1):=by
      rw [Hid,← hW1]
      exact ⟨rfl,rfl,rfl,by rw [Lib.bytesWorld_size];omega,fun k hk=>Lib.bytesWorld_at_old w _ a k hk⟩
    clear hW1 hcv hcp
    go_loopw [15] (fun t wr => ∃ i:Nat,i≤a.size∧t = .int .i64 (i:Int)∧Below w.heap.size w wr∧∀ j,j < a.size→wr.cell? ⟨w.heap.size,j,none⟩=some (.int .u8 ((if j < i then (Cd.agB a.data.toList b.data.toList).getD j 0 else a.data.toList.getD j 0).toNat:Int))∧wr.frozen? ⟨w.heap.size,j,none⟩=false) (fun t _=>a.size - (intOf t).toNat)
    case atStart=>exact ⟨0,by omega,rfl,HB0.out,fun j hj=>by rw [if_neg (by omega)];exact HC0.out j hj⟩
    case round =>
      obtain ⟨i,hi,rfl,hbr,hcs⟩:=hrel
      have HBR:Hid (Below w.heap.size w wr):=hbr
      have HCS:Hid (∀ j,j < a.size→wr.cell? ⟨w.heap.size,j,none⟩=some (.int .u8 ((if j < i then (Cd.agB a.data.toList b.data.toList).getD j 0 else a.data.toList.getD j 0).toNat:Int))∧wr.frozen? ⟨w.heap.size,j,none⟩=false):=hcs
      clear hbr hcs
      by_cases hlt:i < a.size
      · have hltI:(i:Int) < (a.size:Int):=by omega
        have hltb:i < b.size:=by rw [← Hsz.out];exact hlt
        have hltbI:(i:Int) < (b.size:Int):=by omega
        obtain ⟨c0,f0⟩:=HCS.out i hlt
        rw [if_neg (by omega)] at c0
        obtain ⟨x,HX⟩:∃ x,Hid (a.data.toList.getD i 0=x):=⟨_,(rfl:a.data.toList.getD i 0=_)⟩
        rw [HX.out] at c0
        have HAB:Hid ((Cd.agB a.data.toList b.data.toList).getD i 0=if x=b[i] then x else 0):=by
          have h1:i < a.data.toList.length:=by simpa using hlt
          have h2:i < b.data.toList.length:=by simpa using hltb
          rw [Hid,← HX.out]
          unfold Cd.agB
          rw [List.getD_eq_getElem?_getD,List.getElem?_zipWith,List.getD_eq_getElem?_getD,List.getElem?_eq_getElem h1,List.getElem?_eq_getElem h2]
          rfl
        obtain ⟨y,HY⟩:∃ y,Hid (b[i]=y):=⟨_,(rfl:b[i]=_)⟩
        rw [HY.out] at HAB
        have hy:=HY.out
        by_cases hxy:x=y
        · have hxb:(((x.toNat:Nat):Int) != ((y.toNat:Nat):Int))=false:=by simp [hxy]
          have HNX:Hid (∀ j,j < a.size→wr.cell? ⟨w.heap.size,j,none⟩=some (.int .u8 ((if j < i+1 then (Cd.agB a.data.toList b.data.toList).getD j 0 else a.data.toList.getD j 0).toNat:Int))∧wr.frozen? ⟨w.heap.size,j,none⟩=false):=fun j hj=>by
            obtain ⟨h1,h2⟩:=HCS.out j hj
            refine ⟨?_,h2⟩
            by_cases e:j=i
            · subst e
              rw [if_pos (by omega),HAB.out,if_pos hxy];exact c0
            · by_cases e2:j < i
              · rw [if_pos (by omega)];rw [if_pos e2] at h1;exact h1
              · rw [if_neg (by omega)];rw [if_neg e2] at h1;exact h1
          clear hxy
          go_wp2
          go_quiet (fail)
          go_wp2
          go_roundw
          case rel=>exact ⟨i+1,by omega,by go_num,Cd.belowD' _ HBR.out,HNX.out⟩
          case measure=>simp [intOf];omega
        · have hxb:(((x.toNat:Nat):Int) != ((y.toNat:Nat):Int))=true:=by
            have:x.toNat≠y.toNat:=fun e=>hxy (UInt8.toNat_inj.1 e)
            simp;omega
          have HNX:Hid (∀ j,j < a.size→(wr.setCell ⟨w.heap.size,i,none⟩ (.int .u8 0)).cell? ⟨w.heap.size,j,none⟩=some (.int .u8 ((if j < i+1 then (Cd.agB a.data.toList b.data.toList).getD j 0 else a.data.toList.getD j 0).toNat:Int))∧(wr.setCell ⟨w.heap.size,i,none⟩ (.int .u8 0)).frozen? ⟨w.heap.size,j,none⟩=false):=fun j hj=>by
            obtain ⟨h1,h2⟩:=HCS.out j hj
            refine ⟨?_,by rw [World.frozen?_setCell];exact h2⟩
            by_cases e:j=i
            · subst e
              rw [if_pos (by omega),HAB.out,if_neg hxy,World.cell?_setCell_same (w:=wr) (h:=c0)];rfl
            · rw [World.cell?_setCell_other (w:=wr) (h:=(by intro h;injection h with _ h;exact e h.symm))]
              by_cases e2:j < i
              · rw [if_pos (by omega)];rw [if_pos e2] at h1;exact h1
              · rw [if_neg (by omega)];rw [if_neg e2] at h1;exact h1
          clear hxy
          go_wp2
          go_quiet (fail)
          go_wp2
          go_roundw
          case rel=>exact ⟨i+1,by omega,by go_num,(Cd.belowD' _ HBR.out).setCell (p:=⟨w.heap.size,i,none⟩) (Nat.le_refl _) _,HNX.out⟩
          case measure=>simp [intOf];omega
      · have hie:i=a.size:=by omega
        have HE:Hid (∀ j (hj:j < (Cd.agB a.data.toList b.data.toList).length),wr.cell? ((⟨w.heap.size,0,none⟩:Addr).add j)=some (.int .u8 ((Cd.agB a.data.toList b.data.toList)[j].toNat:Int))):=fun j hj=>by
          have hja:j < a.size:=by
            have:(Cd.agB a.data.toList b.data.toList).length≤a.data.toList.length:=by unfold Cd.agB;rw [List.length_zipWith];exact Nat.min_le_left _ _
            have e:a.data.toList.length=a.size:=by simp
            omega
          have h1:=(HCS.out j hja).1
          rw [if_pos (by omega),List.getD_eq_getElem?_getD,List.getElem?_eq_getElem hj] at h1
          by_cases j0:j=0
          · subst j0;simpa [Addr.add] using h1
          · simpa [Addr.add,j0] using h1
        have HLN:Hid ((Cd.agB a.data.toList b.data.toList).length=a.size):=by
          rw [Hid]
          unfold Cd.agB
          rw [List.length_zipWith]
          have e1:a.data.toList.length=a.size:=by simp
          have e2:b.data.toList.length=b.size:=by simp
          have:=Hsz.out
          omega
        have hltI:¬ (i:Int) < (a.size:Int):=by omega
        have hcb:=run_convert_bytes_back (P:=Tryz.prog) wr 57 9 5 ⟨w.heap.size,0,none⟩ cp (Cd.agB a.data.toList b.data.toList) Tryz.underlying57 Tryz.underlying5 Tryz.underlying9 HE.out
        rw [HLN.out] at hcb
        clear hie
        go_wp2
        go_ret
        exact ⟨rfl,HBR.out⟩
end Go.Proofs.YtbkhedpabfanoaaGreatDoor
namespace Go.Proofs.YtbkhedpabfanoaaGreatDoor
open Go.RowKit

def Cd.bs (l:List Int):ByteArray:=⟨(l.map (fun z=>UInt8.ofNat z.toNat)).toArray⟩
def Cd.small (l:List Int):Prop := ∀ t ∈ l,0≤t∧t≤10
def Cd.smallS : Cd.Sh→Prop
  | .known s k=>Cd.small s∧Cd.small k
  | _=>True
def Cd.layV (st:Int) (s k:ByteArray):Value:=.agg #[.int .i64 st,.string s,.string k]
def Cd.lay : Cd.Sh→Value
  | .none=>Cd.layV 0 ⟨#[]⟩ ⟨#[]⟩
  | .known s k=>Cd.layV 1 (Cd.bs s) (Cd.bs k)
  | .clash=>Cd.layV 2 ⟨#[]⟩ ⟨#[]⟩
theorem Cd.bs_size (l:List Int):(Cd.bs l).size=l.length:=by simp [Cd.bs,ByteArray.size]
theorem Cd.byte_inj {x y:Int} (hx:0≤x∧x≤10) (hy:0≤y∧y≤10) (h:UInt8.ofNat x.toNat=UInt8.ofNat y.toNat):x=y:=by
  have h2:=congrArg UInt8.toNat h
  simp at h2
  omega
theorem Cd.bs_inj : ∀ {k l:List Int},Cd.small k→Cd.small l→(k.map (fun z=>UInt8.ofNat z.toNat))=(l.map (fun z=>UInt8.ofNat z.toNat))→k=l
  | [],[],_,_,_=>rfl
  | [],_::_,_,_,h=>by simp at h
  | _::_,[],_,_,h=>by simp at h
  | x::r,y::r',h1,h2,h=>by
    simp only [List.map_cons,List.cons.injEq] at h
    rw [Cd.byte_inj (h1 x (by simp)) (h2 y (by simp)) h.1,Cd.bs_inj (fun t ht=>h1 t (by simp [ht])) (fun t ht=>h2 t (by simp [ht])) h.2]
theorem Cd.bs_eq {k l:List Int} (hk:Cd.small k) (hl:Cd.small l):((Cd.bs k).toList == (Cd.bs l).toList)=decide (k=l):=by
  rw [ByteArray.toList_eq,ByteArray.toList_eq]
  by_cases e:k=l
  · subst e;simp
  · have:¬ (Cd.bs k).data.toList=(Cd.bs l).data.toList:=fun h=>e (Cd.bs_inj hk hl (by simpa [Cd.bs] using h))
    have this2:¬ (Cd.bs k).data=(Cd.bs l).data:=fun h=>this (by rw [h])
    simp [e,this2]
theorem Cd.agB_bs : ∀ {s t:List Int},Cd.small s→Cd.small t→Cd.agB (Cd.bs s).data.toList (Cd.bs t).data.toList=(Cd.agree s t).map (fun z=>UInt8.ofNat z.toNat)
  | [],t,_,_=>by simp [Cd.agB,Cd.bs,Cd.agree]
  | _::_,[],_,_=>by simp [Cd.agB,Cd.bs,Cd.agree]
  | x::r,y::r',h1,h2=>by
    have ih:=Cd.agB_bs (s:=r) (t:=r') (fun t ht=>h1 t (by simp [ht])) (fun t ht=>h2 t (by simp [ht]))
    unfold Cd.agB Cd.bs Cd.agree at ih ⊢
    simp only [List.map_cons,List.zipWith_cons_cons,List.cons.injEq] at ih ⊢
    refine ⟨?_,ih⟩
    by_cases e:x=y
    · subst e;simp
    · have:¬ UInt8.ofNat x.toNat=UInt8.ofNat y.toNat:=fun h=>e (Cd.byte_inj (h1 x (by simp)) (h2 y (by simp)) h)
      rw [if_neg this,if_neg e];rfl
set_option maxRecDepth 100000 in
set_option maxHeartbeats 1000000 in
theorem Cd.met_01 (s1 k1 s2 k2:ByteArray) (w:World) :
    Calls Tryz.prog 106 #[Cd.layV 0 s1 k1,Cd.layV 1 s2 k2] w fun e w'=>e = .returned (Cd.layV 1 s2 k2)∧Below w.heap.size w w':=by
  obtain ⟨Y1,hY1⟩:∃ Y,w.alloc (.cells #[.int .i64 0,.string s1,.string k1] 168)=Y:=⟨_,rfl⟩
  have hb1:Below w.heap.size w Y1:=by rw [← hY1];exact Cd.b1 w _
  have hs1:Y1.heap.size=w.heap.size+1:=by rw [← hY1];exact World.size_alloc _ _
  have p1_0:Y1.heap[w.heap.size]? = some (.cells #[.int .i64 0,.string s1,.string k1] 168):=by rw [← hY1];exact Cd.new_at w _
  obtain ⟨Y2,hY2⟩:∃ Y,Y1.alloc (.cells #[.int .i64 1,.string s2,.string k2] 168)=Y:=⟨_,rfl⟩
  have hb2:Below w.heap.size w Y2:=by rw [← hY2];exact Cd.Below.new hb1 _
  have hs2:Y2.heap.size=w.heap.size+2:=by rw [← hY2,World.size_alloc];omega
  have p2_0:Y2.heap[w.heap.size]? = some (.cells #[.int .i64 0,.string s1,.string k1] 168):=by rw [← hY2];exact Cd.keepH _ p1_0
  have p2_1:Y2.heap[w.heap.size+1]? = some (.cells #[.int .i64 1,.string s2,.string k2] 168):=by rw [← hY2,← hs1];exact Cd.new_at _ _
  clear p1_0
  obtain ⟨Y3,hY3⟩:∃ Y,Y2.alloc (.cells #[.int .i64 0,.string ⟨#[]⟩,.string ⟨#[]⟩] 168)=Y:=⟨_,rfl⟩
  have hb3:Below w.heap.size w Y3:=by rw [← hY3];exact Cd.Below.new hb2 _
  have hs3:Y3.heap.size=w.heap.size+3:=by rw [← hY3,World.size_alloc];omega
  have p3_0:Y3.heap[w.heap.size]? = some (.cells #[.int .i64 0,.string s1,.string k1] 168):=by rw [← hY3];exact Cd.keepH _ p2_0
  have p3_1:Y3.heap[w.heap.size+1]? = some (.cells #[.int .i64 1,.string s2,.string k2] 168):=by rw [← hY3];exact Cd.keepH _ p2_1
  have p3_2:Y3.heap[w.heap.size+2]? = some (.cells #[.int .i64 0,.string ⟨#[]⟩,.string ⟨#[]⟩] 168):=by rw [← hY3,← hs2];exact Cd.new_at _ _
  clear p2_0 p2_1
  have c0_0:Y3.cell? ⟨w.heap.size,0,none⟩=some (.int .i64 0):=by rw [Lib.cell_of_heap p3_0];rfl
  have c0_1:Y3.cell? ⟨w.heap.size,1,none⟩=some (.string s1):=by rw [Lib.cell_of_heap p3_0];rfl
  have c0_2:Y3.cell? ⟨w.heap.size,2,none⟩=some (.string k1):=by rw [Lib.cell_of_heap p3_0];rfl
  have c1_0:Y3.cell? ⟨w.heap.size+1,0,none⟩=some (.int .i64 1):=by rw [Lib.cell_of_heap p3_1];rfl
  have c1_1:Y3.cell? ⟨w.heap.size+1,1,none⟩=some (.string s2):=by rw [Lib.cell_of_heap p3_1];rfl
  have c1_2:Y3.cell? ⟨w.heap.size+1,2,none⟩=some (.string k2):=by rw [Lib.cell_of_heap p3_1];rfl
  have c2_0:Y3.cell? ⟨w.heap.size+2,0,none⟩=some (.int .i64 0):=by rw [Lib.cell_of_heap p3_2];rfl
  have c2_1:Y3.cell? ⟨w.heap.size+2,1,none⟩=some (.string ⟨#[]⟩):=by rw [Lib.cell_of_heap p3_2];rfl
  have c2_2:Y3.cell? ⟨w.heap.size+2,2,none⟩=some (.string ⟨#[]⟩):=by rw [Lib.cell_of_heap p3_2];rfl
  have f2_0:Y3.frozen? ⟨w.heap.size+2,0,none⟩=false:=by simp [World.frozen?,p3_2]
  have f2_1:Y3.frozen? ⟨w.heap.size+2,1,none⟩=false:=by simp [World.frozen?,p3_2]
  have f2_2:Y3.frozen? ⟨w.heap.size+2,2,none⟩=false:=by simp [World.frozen?,p3_2]
  clear p3_0 p3_1 p3_2 hb1 hb2
  unfold Cd.layV
  go_enter Tryz.func106,Tryz.ntmps106
  go_wp2_with fail
  exact bodyPost_ret (v:=Cd.layV 1 s2 k2) (by simp [results,Tryz.results106,go_sem,c2_0,c2_1,c2_2,Cd.layV]) rfl ⟨rfl,Cd.Below.set (Cd.Below.set (Cd.Below.set hb3 2 0 _) 2 1 _) 2 2 _⟩
set_option maxRecDepth 100000 in
set_option maxHeartbeats 1000000 in
theorem Cd.met_02 (s1 k1 s2 k2:ByteArray) (w:World) :
    Calls Tryz.prog 106 #[Cd.layV 0 s1 k1,Cd.layV 2 s2 k2] w fun e w'=>e = .returned (Cd.layV 2 s2 k2)∧Below w.heap.size w w':=by
  obtain ⟨Y1,hY1⟩:∃ Y,w.alloc (.cells #[.int .i64 0,.string s1,.string k1] 168)=Y:=⟨_,rfl⟩
  have hb1:Below w.heap.size w Y1:=by rw [← hY1];exact Cd.b1 w _
  have hs1:Y1.heap.size=w.heap.size+1:=by rw [← hY1];exact World.size_alloc _ _
  have p1_0:Y1.heap[w.heap.size]? = some (.cells #[.int .i64 0,.string s1,.string k1] 168):=by rw [← hY1];exact Cd.new_at w _
  obtain ⟨Y2,hY2⟩:∃ Y,Y1.alloc (.cells #[.int .i64 2,.string s2,.string k2] 168)=Y:=⟨_,rfl⟩
  have hb2:Below w.heap.size w Y2:=by rw [← hY2];exact Cd.Below.new hb1 _
  have hs2:Y2.heap.size=w.heap.size+2:=by rw [← hY2,World.size_alloc];omega
  have p2_0:Y2.heap[w.heap.size]? = some (.cells #[.int .i64 0,.string s1,.string k1] 168):=by rw [← hY2];exact Cd.keepH _ p1_0
  have p2_1:Y2.heap[w.heap.size+1]? = some (.cells #[.int .i64 2,.string s2,.string k2] 168):=by rw [← hY2,← hs1];exact Cd.new_at _ _
  clear p1_0
  obtain ⟨Y3,hY3⟩:∃ Y,Y2.alloc (.cells #[.int .i64 0,.string ⟨#[]⟩,.string ⟨#[]⟩] 168)=Y:=⟨_,rfl⟩
  have hb3:Below w.heap.size w Y3:=by rw [← hY3];exact Cd.Below.new hb2 _
  have hs3:Y3.heap.size=w.heap.size+3:=by rw [← hY3,World.size_alloc];omega
  have p3_0:Y3.heap[w.heap.size]? = some (.cells #[.int .i64 0,.string s1,.string k1] 168):=by rw [← hY3];exact Cd.keepH _ p2_0
  have p3_1:Y3.heap[w.heap.size+1]? = some (.cells #[.int .i64 2,.string s2,.string k2] 168):=by rw [← hY3];exact Cd.keepH _ p2_1
  have p3_2:Y3.heap[w.heap.size+2]? = some (.cells #[.int .i64 0,.string ⟨#[]⟩,.string ⟨#[]⟩] 168):=by rw [← hY3,← hs2];exact Cd.new_at _ _
  clear p2_0 p2_1
  have c0_0:Y3.cell? ⟨w.heap.size,0,none⟩=some (.int .i64 0):=by rw [Lib.cell_of_heap p3_0];rfl
  have c0_1:Y3.cell? ⟨w.heap.size,1,none⟩=some (.string s1):=by rw [Lib.cell_of_heap p3_0];rfl
  have c0_2:Y3.cell? ⟨w.heap.size,2,none⟩=some (.string k1):=by rw [Lib.cell_of_heap p3_0];rfl
  have c1_0:Y3.cell? ⟨w.heap.size+1,0,none⟩=some (.int .i64 2):=by rw [Lib.cell_of_heap p3_1];rfl
  have c1_1:Y3.cell? ⟨w.heap.size+1,1,none⟩=some (.string s2):=by rw [Lib.cell_of_heap p3_1];rfl
  have c1_2:Y3.cell? ⟨w.heap.size+1,2,none⟩=some (.string k2):=by rw [Lib.cell_of_heap p3_1];rfl
  have c2_0:Y3.cell? ⟨w.heap.size+2,0,none⟩=some (.int .i64 0):=by rw [Lib.cell_of_heap p3_2];rfl
  have c2_1:Y3.cell? ⟨w.heap.size+2,1,none⟩=some (.string ⟨#[]⟩):=by rw [Lib.cell_of_heap p3_2];rfl
  have c2_2:Y3.cell? ⟨w.heap.size+2,2,none⟩=some (.string ⟨#[]⟩):=by rw [Lib.cell_of_heap p3_2];rfl
  have f2_0:Y3.frozen? ⟨w.heap.size+2,0,none⟩=false:=by simp [World.frozen?,p3_2]
  have f2_1:Y3.frozen? ⟨w.heap.size+2,1,none⟩=false:=by simp [World.frozen?,p3_2]
  have f2_2:Y3.frozen? ⟨w.heap.size+2,2,none⟩=false:=by simp [World.frozen?,p3_2]
  clear p3_0 p3_1 p3_2 hb1 hb2
  unfold Cd.layV
  go_enter Tryz.func106,Tryz.ntmps106
  go_wp2_with fail
  exact bodyPost_ret (v:=Cd.layV 2 s2 k2) (by simp [results,Tryz.results106,go_sem,c2_0,c2_1,c2_2,Cd.layV]) rfl ⟨rfl,Cd.Below.set (Cd.Below.set (Cd.Below.set hb3 2 0 _) 2 1 _) 2 2 _⟩
set_option maxRecDepth 100000 in
set_option maxHeartbeats 1000000 in
theorem Cd.met_21 (s1 k1 s2 k2:ByteArray) (w:World) :
    Calls Tryz.prog 106 #[Cd.layV 2 s1 k1,Cd.layV 1 s2 k2] w fun e w'=>e = .returned (Cd.layV 2 ⟨#[]⟩ ⟨#[]⟩)∧Below w.heap.size w w':=by
  obtain ⟨Y1,hY1⟩:∃ Y,w.alloc (.cells #[.int .i64 2,.string s1,.string k1] 168)=Y:=⟨_,rfl⟩
  have hb1:Below w.heap.size w Y1:=by rw [← hY1];exact Cd.b1 w _
  have hs1:Y1.heap.size=w.heap.size+1:=by rw [← hY1];exact World.size_alloc _ _
  have p1_0:Y1.heap[w.heap.size]? = some (.cells #[.int .i64 2,.string s1,.string k1] 168):=by rw [← hY1];exact Cd.new_at w _
  obtain ⟨Y2,hY2⟩:∃ Y,Y1.alloc (.cells #[.int .i64 1,.string s2,.string k2] 168)=Y:=⟨_,rfl⟩
  have hb2:Below w.heap.size w Y2:=by rw [← hY2];exact Cd.Below.new hb1 _
  have hs2:Y2.heap.size=w.heap.size+2:=by rw [← hY2,World.size_alloc];omega
  have p2_0:Y2.heap[w.heap.size]? = some (.cells #[.int .i64 2,.string s1,.string k1] 168):=by rw [← hY2];exact Cd.keepH _ p1_0
  have p2_1:Y2.heap[w.heap.size+1]? = some (.cells #[.int .i64 1,.string s2,.string k2] 168):=by rw [← hY2,← hs1];exact Cd.new_at _ _
  clear p1_0
  obtain ⟨Y3,hY3⟩:∃ Y,Y2.alloc (.cells #[.int .i64 0,.string ⟨#[]⟩,.string ⟨#[]⟩] 168)=Y:=⟨_,rfl⟩
  have hb3:Below w.heap.size w Y3:=by rw [← hY3];exact Cd.Below.new hb2 _
  have hs3:Y3.heap.size=w.heap.size+3:=by rw [← hY3,World.size_alloc];omega
  have p3_0:Y3.heap[w.heap.size]? = some (.cells #[.int .i64 2,.string s1,.string k1] 168):=by rw [← hY3];exact Cd.keepH _ p2_0
  have p3_1:Y3.heap[w.heap.size+1]? = some (.cells #[.int .i64 1,.string s2,.string k2] 168):=by rw [← hY3];exact Cd.keepH _ p2_1
  have p3_2:Y3.heap[w.heap.size+2]? = some (.cells #[.int .i64 0,.string ⟨#[]⟩,.string ⟨#[]⟩] 168):=by rw [← hY3,← hs2];exact Cd.new_at _ _
  clear p2_0 p2_1
  have c0_0:Y3.cell? ⟨w.heap.size,0,none⟩=some (.int .i64 2):=by rw [Lib.cell_of_heap p3_0];rfl
  have c0_1:Y3.cell? ⟨w.heap.size,1,none⟩=some (.string s1):=by rw [Lib.cell_of_heap p3_0];rfl
  have c0_2:Y3.cell? ⟨w.heap.size,2,none⟩=some (.string k1):=by rw [Lib.cell_of_heap p3_0];rfl
  have c1_0:Y3.cell? ⟨w.heap.size+1,0,none⟩=some (.int .i64 1):=by rw [Lib.cell_of_heap p3_1];rfl
  have c1_1:Y3.cell? ⟨w.heap.size+1,1,none⟩=some (.string s2):=by rw [Lib.cell_of_heap p3_1];rfl
  have c1_2:Y3.cell? ⟨w.heap.size+1,2,none⟩=some (.string k2):=by rw [Lib.cell_of_heap p3_1];rfl
  have c2_0:Y3.cell? ⟨w.heap.size+2,0,none⟩=some (.int .i64 0):=by rw [Lib.cell_of_heap p3_2];rfl
  have c2_1:Y3.cell? ⟨w.heap.size+2,1,none⟩=some (.string ⟨#[]⟩):=by rw [Lib.cell_of_heap p3_2];rfl
  have c2_2:Y3.cell? ⟨w.heap.size+2,2,none⟩=some (.string ⟨#[]⟩):=by rw [Lib.cell_of_heap p3_2];rfl
  have f2_0:Y3.frozen? ⟨w.heap.size+2,0,none⟩=false:=by simp [World.frozen?,p3_2]
  have f2_1:Y3.frozen? ⟨w.heap.size+2,1,none⟩=false:=by simp [World.frozen?,p3_2]
  have f2_2:Y3.frozen? ⟨w.heap.size+2,2,none⟩=false:=by simp [World.frozen?,p3_2]
  clear p3_0 p3_1 p3_2 hb1 hb2
  unfold Cd.layV
  go_enter Tryz.func106,Tryz.ntmps106
  go_wp2_with fail
  exact bodyPost_ret (v:=Cd.layV 2 ⟨#[]⟩ ⟨#[]⟩) (by simp [results,Tryz.results106,go_sem,c2_0,c2_1,c2_2,Cd.layV]) rfl ⟨rfl,Cd.Below.set (Cd.Below.set (Cd.Below.set hb3 2 0 _) 2 1 _) 2 2 _⟩
set_option maxRecDepth 100000 in
set_option maxHeartbeats 1000000 in
theorem Cd.met_22 (s1 k1 s2 k2:ByteArray) (w:World) :
    Calls Tryz.prog 106 #[Cd.layV 2 s1 k1,Cd.layV 2 s2 k2] w fun e w'=>e = .returned (Cd.layV 2 ⟨#[]⟩ ⟨#[]⟩)∧Below w.heap.size w w':=by
  obtain ⟨Y1,hY1⟩:∃ Y,w.alloc (.cells #[.int .i64 2,.string s1,.string k1] 168)=Y:=⟨_,rfl⟩
  have hb1:Below w.heap.size w Y1:=by rw [← hY1];exact Cd.b1 w _
  have hs1:Y1.heap.size=w.heap.size+1:=by rw [← hY1];exact World.size_alloc _ _
  have p1_0:Y1.heap[w.heap.size]? = some (.cells #[.int .i64 2,.string s1,.string k1] 168):=by rw [← hY1];exact Cd.new_at w _
  obtain ⟨Y2,hY2⟩:∃ Y,Y1.alloc (.cells #[.int .i64 2,.string s2,.string k2] 168)=Y:=⟨_,rfl⟩
  have hb2:Below w.heap.size w Y2:=by rw [← hY2];exact Cd.Below.new hb1 _
  have hs2:Y2.heap.size=w.heap.size+2:=by rw [← hY2,World.size_alloc];omega
  have p2_0:Y2.heap[w.heap.size]? = some (.cells #[.int .i64 2,.string s1,.string k1] 168):=by rw [← hY2];exact Cd.keepH _ p1_0
  have p2_1:Y2.heap[w.heap.size+1]? = some (.cells #[.int .i64 2,.string s2,.string k2] 168):=by rw [← hY2,← hs1];exact Cd.new_at _ _
  clear p1_0
  obtain ⟨Y3,hY3⟩:∃ Y,Y2.alloc (.cells #[.int .i64 0,.string ⟨#[]⟩,.string ⟨#[]⟩] 168)=Y:=⟨_,rfl⟩
  have hb3:Below w.heap.size w Y3:=by rw [← hY3];exact Cd.Below.new hb2 _
  have hs3:Y3.heap.size=w.heap.size+3:=by rw [← hY3,World.size_alloc];omega
  have p3_0:Y3.heap[w.heap.size]? = some (.cells #[.int .i64 2,.string s1,.string k1] 168):=by rw [← hY3];exact Cd.keepH _ p2_0
  have p3_1:Y3.heap[w.heap.size+1]? = some (.cells #[.int .i64 2,.string s2,.string k2] 168):=by rw [← hY3];exact Cd.keepH _ p2_1
  have p3_2:Y3.heap[w.heap.size+2]? = some (.cells #[.int .i64 0,.string ⟨#[]⟩,.string ⟨#[]⟩] 168):=by rw [← hY3,← hs2];exact Cd.new_at _ _
  clear p2_0 p2_1
  have c0_0:Y3.cell? ⟨w.heap.size,0,none⟩=some (.int .i64 2):=by rw [Lib.cell_of_heap p3_0];rfl
  have c0_1:Y3.cell? ⟨w.heap.size,1,none⟩=some (.string s1):=by rw [Lib.cell_of_heap p3_0];rfl
  have c0_2:Y3.cell? ⟨w.heap.size,2,none⟩=some (.string k1):=by rw [Lib.cell_of_heap p3_0];rfl
  have c1_0:Y3.cell? ⟨w.heap.size+1,0,none⟩=some (.int .i64 2):=by rw [Lib.cell_of_heap p3_1];rfl
  have c1_1:Y3.cell? ⟨w.heap.size+1,1,none⟩=some (.string s2):=by rw [Lib.cell_of_heap p3_1];rfl
  have c1_2:Y3.cell? ⟨w.heap.size+1,2,none⟩=some (.string k2):=by rw [Lib.cell_of_heap p3_1];rfl
  have c2_0:Y3.cell? ⟨w.heap.size+2,0,none⟩=some (.int .i64 0):=by rw [Lib.cell_of_heap p3_2];rfl
  have c2_1:Y3.cell? ⟨w.heap.size+2,1,none⟩=some (.string ⟨#[]⟩):=by rw [Lib.cell_of_heap p3_2];rfl
  have c2_2:Y3.cell? ⟨w.heap.size+2,2,none⟩=some (.string ⟨#[]⟩):=by rw [Lib.cell_of_heap p3_2];rfl
  have f2_0:Y3.frozen? ⟨w.heap.size+2,0,none⟩=false:=by simp [World.frozen?,p3_2]
  have f2_1:Y3.frozen? ⟨w.heap.size+2,1,none⟩=false:=by simp [World.frozen?,p3_2]
  have f2_2:Y3.frozen? ⟨w.heap.size+2,2,none⟩=false:=by simp [World.frozen?,p3_2]
  clear p3_0 p3_1 p3_2 hb1 hb2
  unfold Cd.layV
  go_enter Tryz.func106,Tryz.ntmps106
  go_wp2_with fail
  exact bodyPost_ret (v:=Cd.layV 2 ⟨#[]⟩ ⟨#[]⟩) (by simp [results,Tryz.results106,go_sem,c2_0,c2_1,c2_2,Cd.layV]) rfl ⟨rfl,Cd.Below.set (Cd.Below.set (Cd.Below.set hb3 2 0 _) 2 1 _) 2 2 _⟩
set_option maxRecDepth 100000 in
set_option maxHeartbeats 1000000 in
theorem Cd.met_12 (s1 k1 s2 k2:ByteArray) (w:World) :
    Calls Tryz.prog 106 #[Cd.layV 1 s1 k1,Cd.layV 2 s2 k2] w fun e w'=>e = .returned (Cd.layV 2 ⟨#[]⟩ ⟨#[]⟩)∧Below w.heap.size w w':=by
  obtain ⟨Y1,hY1⟩:∃ Y,w.alloc (.cells #[.int .i64 1,.string s1,.string k1] 168)=Y:=⟨_,rfl⟩
  have hb1:Below w.heap.size w Y1:=by rw [← hY1];exact Cd.b1 w _
  have hs1:Y1.heap.size=w.heap.size+1:=by rw [← hY1];exact World.size_alloc _ _
  have p1_0:Y1.heap[w.heap.size]? = some (.cells #[.int .i64 1,.string s1,.string k1] 168):=by rw [← hY1];exact Cd.new_at w _
  obtain ⟨Y2,hY2⟩:∃ Y,Y1.alloc (.cells #[.int .i64 2,.string s2,.string k2] 168)=Y:=⟨_,rfl⟩
  have hb2:Below w.heap.size w Y2:=by rw [← hY2];exact Cd.Below.new hb1 _
  have hs2:Y2.heap.size=w.heap.size+2:=by rw [← hY2,World.size_alloc];omega
  have p2_0:Y2.heap[w.heap.size]? = some (.cells #[.int .i64 1,.string s1,.string k1] 168):=by rw [← hY2];exact Cd.keepH _ p1_0
  have p2_1:Y2.heap[w.heap.size+1]? = some (.cells #[.int .i64 2,.string s2,.string k2] 168):=by rw [← hY2,← hs1];exact Cd.new_at _ _
  clear p1_0
  obtain ⟨Y3,hY3⟩:∃ Y,Y2.alloc (.cells #[.int .i64 0,.string ⟨#[]⟩,.string ⟨#[]⟩] 168)=Y:=⟨_,rfl⟩
  have hb3:Below w.heap.size w Y3:=by rw [← hY3];exact Cd.Below.new hb2 _
  have hs3:Y3.heap.size=w.heap.size+3:=by rw [← hY3,World.size_alloc];omega
  have p3_0:Y3.heap[w.heap.size]? = some (.cells #[.int .i64 1,.string s1,.string k1] 168):=by rw [← hY3];exact Cd.keepH _ p2_0
  have p3_1:Y3.heap[w.heap.size+1]? = some (.cells #[.int .i64 2,.string s2,.string k2] 168):=by rw [← hY3];exact Cd.keepH _ p2_1
  have p3_2:Y3.heap[w.heap.size+2]? = some (.cells #[.int .i64 0,.string ⟨#[]⟩,.string ⟨#[]⟩] 168):=by rw [← hY3,← hs2];exact Cd.new_at _ _
  clear p2_0 p2_1
  have c0_0:Y3.cell? ⟨w.heap.size,0,none⟩=some (.int .i64 1):=by rw [Lib.cell_of_heap p3_0];rfl
  have c0_1:Y3.cell? ⟨w.heap.size,1,none⟩=some (.string s1):=by rw [Lib.cell_of_heap p3_0];rfl
  have c0_2:Y3.cell? ⟨w.heap.size,2,none⟩=some (.string k1):=by rw [Lib.cell_of_heap p3_0];rfl
  have c1_0:Y3.cell? ⟨w.heap.size+1,0,none⟩=some (.int .i64 2):=by rw [Lib.cell_of_heap p3_1];rfl
  have c1_1:Y3.cell? ⟨w.heap.size+1,1,none⟩=some (.string s2):=by rw [Lib.cell_of_heap p3_1];rfl
  have c1_2:Y3.cell? ⟨w.heap.size+1,2,none⟩=some (.string k2):=by rw [Lib.cell_of_heap p3_1];rfl
  have c2_0:Y3.cell? ⟨w.heap.size+2,0,none⟩=some (.int .i64 0):=by rw [Lib.cell_of_heap p3_2];rfl
  have c2_1:Y3.cell? ⟨w.heap.size+2,1,none⟩=some (.string ⟨#[]⟩):=by rw [Lib.cell_of_heap p3_2];rfl
  have c2_2:Y3.cell? ⟨w.heap.size+2,2,none⟩=some (.string ⟨#[]⟩):=by rw [Lib.cell_of_heap p3_2];rfl
  have f2_0:Y3.frozen? ⟨w.heap.size+2,0,none⟩=false:=by simp [World.frozen?,p3_2]
  have f2_1:Y3.frozen? ⟨w.heap.size+2,1,none⟩=false:=by simp [World.frozen?,p3_2]
  have f2_2:Y3.frozen? ⟨w.heap.size+2,2,none⟩=false:=by simp [World.frozen?,p3_2]
  clear p3_0 p3_1 p3_2 hb1 hb2
  unfold Cd.layV
  go_enter Tryz.func106,Tryz.ntmps106
  go_wp2_with fail
  exact bodyPost_ret (v:=Cd.layV 2 ⟨#[]⟩ ⟨#[]⟩) (by simp [results,Tryz.results106,go_sem,c2_0,c2_1,c2_2,Cd.layV]) rfl ⟨rfl,Cd.Below.set (Cd.Below.set (Cd.Below.set hb3 2 0 _) 2 1 _) 2 2 _⟩
set_option maxRecDepth 100000 in
set_option maxHeartbeats 1000000 in
theorem Cd.met_no (s1 k1 s2 k2:ByteArray) (hk:(k1.toList == k2.toList)=false) (w:World) :
    Calls Tryz.prog 106 #[Cd.layV 1 s1 k1,Cd.layV 1 s2 k2] w fun e w'=>e = .returned (Cd.layV 2 ⟨#[]⟩ ⟨#[]⟩)∧Below w.heap.size w w':=by
  have hkn:(k1.toList != k2.toList)=true:=by simp only [bne,hk];rfl
  obtain ⟨Y1,hY1⟩:∃ Y,w.alloc (.cells #[.int .i64 1,.string s1,.string k1] 168)=Y:=⟨_,rfl⟩
  have hb1:Below w.heap.size w Y1:=by rw [← hY1];exact Cd.b1 w _
  have hs1:Y1.heap.size=w.heap.size+1:=by rw [← hY1];exact World.size_alloc _ _
  have p1_0:Y1.heap[w.heap.size]? = some (.cells #[.int .i64 1,.string s1,.string k1] 168):=by rw [← hY1];exact Cd.new_at w _
  obtain ⟨Y2,hY2⟩:∃ Y,Y1.alloc (.cells #[.int .i64 1,.string s2,.string k2] 168)=Y:=⟨_,rfl⟩
  have hb2:Below w.heap.size w Y2:=by rw [← hY2];exact Cd.Below.new hb1 _
  have hs2:Y2.heap.size=w.heap.size+2:=by rw [← hY2,World.size_alloc];omega
  have p2_0:Y2.heap[w.heap.size]? = some (.cells #[.int .i64 1,.string s1,.string k1] 168):=by rw [← hY2];exact Cd.keepH _ p1_0
  have p2_1:Y2.heap[w.heap.size+1]? = some (.cells #[.int .i64 1,.string s2,.string k2] 168):=by rw [← hY2,← hs1];exact Cd.new_at _ _
  clear p1_0
  obtain ⟨Y3,hY3⟩:∃ Y,Y2.alloc (.cells #[.int .i64 0,.string ⟨#[]⟩,.string ⟨#[]⟩] 168)=Y:=⟨_,rfl⟩
  have hb3:Below w.heap.size w Y3:=by rw [← hY3];exact Cd.Below.new hb2 _
  have hs3:Y3.heap.size=w.heap.size+3:=by rw [← hY3,World.size_alloc];omega
  have p3_0:Y3.heap[w.heap.size]? = some (.cells #[.int .i64 1,.string s1,.string k1] 168):=by rw [← hY3];exact Cd.keepH _ p2_0
  have p3_1:Y3.heap[w.heap.size+1]? = some (.cells #[.int .i64 1,.string s2,.string k2] 168):=by rw [← hY3];exact Cd.keepH _ p2_1
  have p3_2:Y3.heap[w.heap.size+2]? = some (.cells #[.int .i64 0,.string ⟨#[]⟩,.string ⟨#[]⟩] 168):=by rw [← hY3,← hs2];exact Cd.new_at _ _
  clear p2_0 p2_1
  have c0_0:Y3.cell? ⟨w.heap.size,0,none⟩=some (.int .i64 1):=by rw [Lib.cell_of_heap p3_0];rfl
  have c0_1:Y3.cell? ⟨w.heap.size,1,none⟩=some (.string s1):=by rw [Lib.cell_of_heap p3_0];rfl
  have c0_2:Y3.cell? ⟨w.heap.size,2,none⟩=some (.string k1):=by rw [Lib.cell_of_heap p3_0];rfl
  have c1_0:Y3.cell? ⟨w.heap.size+1,0,none⟩=some (.int .i64 1):=by rw [Lib.cell_of_heap p3_1];rfl
  have c1_1:Y3.cell? ⟨w.heap.size+1,1,none⟩=some (.string s2):=by rw [Lib.cell_of_heap p3_1];rfl
  have c1_2:Y3.cell? ⟨w.heap.size+1,2,none⟩=some (.string k2):=by rw [Lib.cell_of_heap p3_1];rfl
  have c2_0:Y3.cell? ⟨w.heap.size+2,0,none⟩=some (.int .i64 0):=by rw [Lib.cell_of_heap p3_2];rfl
  have c2_1:Y3.cell? ⟨w.heap.size+2,1,none⟩=some (.string ⟨#[]⟩):=by rw [Lib.cell_of_heap p3_2];rfl
  have c2_2:Y3.cell? ⟨w.heap.size+2,2,none⟩=some (.string ⟨#[]⟩):=by rw [Lib.cell_of_heap p3_2];rfl
  have f2_0:Y3.frozen? ⟨w.heap.size+2,0,none⟩=false:=by simp [World.frozen?,p3_2]
  have f2_1:Y3.frozen? ⟨w.heap.size+2,1,none⟩=false:=by simp [World.frozen?,p3_2]
  have f2_2:Y3.frozen? ⟨w.heap.size+2,2,none⟩=false:=by simp [World.frozen?,p3_2]
  clear p3_0 p3_1 p3_2 hb1 hb2
  unfold Cd.layV
  go_enter Tryz.func106,Tryz.ntmps106
  go_wp2_with fail
  exact bodyPost_ret (v:=Cd.layV 2 ⟨#[]⟩ ⟨#[]⟩) (by simp [results,Tryz.results106,go_sem,c2_0,c2_1,c2_2,Cd.layV]) rfl ⟨rfl,Cd.Below.set (Cd.Below.set (Cd.Below.set hb3 2 0 _) 2 1 _) 2 2 _⟩
set_option maxRecDepth 100000 in
set_option maxHeartbeats 1000000 in
theorem Cd.met_yes (s1 k1 s2 k2:ByteArray) (hk:(k1.toList == k2.toList)=true) (ag:ByteArray) (hag:⟨(Cd.agB s1.data.toList s2.data.toList).toArray⟩=ag) (hsz:s1.size=s2.size) (hs:s1.size≤1048576) (w:World) :
    Calls Tryz.prog 106 #[Cd.layV 1 s1 k1,Cd.layV 1 s2 k2] w fun e w'=>e = .returned (Cd.layV 1 ag k1)∧Below w.heap.size w w':=by
  have hkn:(k1.toList != k2.toList)=false:=by simp only [bne,hk];rfl
  obtain ⟨Y1,hY1⟩:∃ Y,w.alloc (.cells #[.int .i64 1,.string s1,.string k1] 168)=Y:=⟨_,rfl⟩
  have hb1:Below w.heap.size w Y1:=by rw [← hY1];exact Cd.b1 w _
  have hs1:Y1.heap.size=w.heap.size+1:=by rw [← hY1];exact World.size_alloc _ _
  have p1_0:Y1.heap[w.heap.size]? = some (.cells #[.int .i64 1,.string s1,.string k1] 168):=by rw [← hY1];exact Cd.new_at w _
  obtain ⟨Y2,hY2⟩:∃ Y,Y1.alloc (.cells #[.int .i64 1,.string s2,.string k2] 168)=Y:=⟨_,rfl⟩
  have hb2:Below w.heap.size w Y2:=by rw [← hY2];exact Cd.Below.new hb1 _
  have hs2:Y2.heap.size=w.heap.size+2:=by rw [← hY2,World.size_alloc];omega
  have p2_0:Y2.heap[w.heap.size]? = some (.cells #[.int .i64 1,.string s1,.string k1] 168):=by rw [← hY2];exact Cd.keepH _ p1_0
  have p2_1:Y2.heap[w.heap.size+1]? = some (.cells #[.int .i64 1,.string s2,.string k2] 168):=by rw [← hY2,← hs1];exact Cd.new_at _ _
  clear p1_0
  obtain ⟨Y3,hY3⟩:∃ Y,Y2.alloc (.cells #[.int .i64 0,.string ⟨#[]⟩,.string ⟨#[]⟩] 168)=Y:=⟨_,rfl⟩
  have hb3:Below w.heap.size w Y3:=by rw [← hY3];exact Cd.Below.new hb2 _
  have hs3:Y3.heap.size=w.heap.size+3:=by rw [← hY3,World.size_alloc];omega
  have p3_0:Y3.heap[w.heap.size]? = some (.cells #[.int .i64 1,.string s1,.string k1] 168):=by rw [← hY3];exact Cd.keepH _ p2_0
  have p3_1:Y3.heap[w.heap.size+1]? = some (.cells #[.int .i64 1,.string s2,.string k2] 168):=by rw [← hY3];exact Cd.keepH _ p2_1
  have p3_2:Y3.heap[w.heap.size+2]? = some (.cells #[.int .i64 0,.string ⟨#[]⟩,.string ⟨#[]⟩] 168):=by rw [← hY3,← hs2];exact Cd.new_at _ _
  clear p2_0 p2_1
  have c0_0:Y3.cell? ⟨w.heap.size,0,none⟩=some (.int .i64 1):=by rw [Lib.cell_of_heap p3_0];rfl
  have c0_1:Y3.cell? ⟨w.heap.size,1,none⟩=some (.string s1):=by rw [Lib.cell_of_heap p3_0];rfl
  have c0_2:Y3.cell? ⟨w.heap.size,2,none⟩=some (.string k1):=by rw [Lib.cell_of_heap p3_0];rfl
  have f0_0:Y3.frozen? ⟨w.heap.size,0,none⟩=false:=by simp [World.frozen?,p3_0]
  have f0_1:Y3.frozen? ⟨w.heap.size,1,none⟩=false:=by simp [World.frozen?,p3_0]
  have f0_2:Y3.frozen? ⟨w.heap.size,2,none⟩=false:=by simp [World.frozen?,p3_0]
  have c1_0:Y3.cell? ⟨w.heap.size+1,0,none⟩=some (.int .i64 1):=by rw [Lib.cell_of_heap p3_1];rfl
  have c1_1:Y3.cell? ⟨w.heap.size+1,1,none⟩=some (.string s2):=by rw [Lib.cell_of_heap p3_1];rfl
  have c1_2:Y3.cell? ⟨w.heap.size+1,2,none⟩=some (.string k2):=by rw [Lib.cell_of_heap p3_1];rfl
  have c2_0:Y3.cell? ⟨w.heap.size+2,0,none⟩=some (.int .i64 0):=by rw [Lib.cell_of_heap p3_2];rfl
  have c2_1:Y3.cell? ⟨w.heap.size+2,1,none⟩=some (.string ⟨#[]⟩):=by rw [Lib.cell_of_heap p3_2];rfl
  have c2_2:Y3.cell? ⟨w.heap.size+2,2,none⟩=some (.string ⟨#[]⟩):=by rw [Lib.cell_of_heap p3_2];rfl
  have f2_0:Y3.frozen? ⟨w.heap.size+2,0,none⟩=false:=by simp [World.frozen?,p3_2]
  have f2_1:Y3.frozen? ⟨w.heap.size+2,1,none⟩=false:=by simp [World.frozen?,p3_2]
  have f2_2:Y3.frozen? ⟨w.heap.size+2,2,none⟩=false:=by simp [World.frozen?,p3_2]
  clear hb1 hb2
  have HAG:Hid (Calls Tryz.prog 120 #[.string s1,.string s2] Y3 fun e w'=>e = .returned (.string ag)∧Below Y3.heap.size Y3 w'):=by
    have h:=Cd.agreed_any s1 s2 hsz hs Y3
    rw [hag] at h
    exact h
  clear hag hsz
  unfold Cd.layV
  go_enter Tryz.func106,Tryz.ntmps106
  go_wp2_with (first | (go_at_call 120;refine HAG.out.mono ?_;rintro e w7 ⟨rfl,hb7⟩;have x0:=(hb7.block w.heap.size (by omega)).trans p3_0;have x2:=(hb7.block (w.heap.size+2) (by omega)).trans p3_2;have a0:=(show w7.cell? ⟨w.heap.size,0,none⟩=some (.int .i64 1) from (by rw [Lib.cell_of_heap x0];rfl));have a1:=(show w7.cell? ⟨w.heap.size,1,none⟩=some (.string s1) from (by rw [Lib.cell_of_heap x0];rfl));have a2:=(show w7.cell? ⟨w.heap.size,2,none⟩=some (.string k1) from (by rw [Lib.cell_of_heap x0];rfl));have fa1:=(show w7.frozen? ⟨w.heap.size,1,none⟩=false from (by simp [World.frozen?,x0]));have r0:=(show w7.cell? ⟨w.heap.size+2,0,none⟩=some (.int .i64 0) from (by rw [Lib.cell_of_heap x2];rfl));have r1:=(show w7.cell? ⟨w.heap.size+2,1,none⟩=some (.string ⟨#[]⟩) from (by rw [Lib.cell_of_heap x2];rfl));have r2:=(show w7.cell? ⟨w.heap.size+2,2,none⟩=some (.string ⟨#[]⟩) from (by rw [Lib.cell_of_heap x2];rfl));have fr0:=(show w7.frozen? ⟨w.heap.size+2,0,none⟩=false from (by simp [World.frozen?,x2]));have fr1:=(show w7.frozen? ⟨w.heap.size+2,1,none⟩=false from (by simp [World.frozen?,x2]));have fr2:=(show w7.frozen? ⟨w.heap.size+2,2,none⟩=false from (by simp [World.frozen?,x2]))))
  exact bodyPost_ret (v:=Cd.layV 1 ag k1) (by simp [results,Tryz.results106,go_sem,r0,r1,r2,Cd.layV]) rfl ⟨rfl,Cd.Below.set (Cd.Below.set (Cd.Below.set ((hb3.trans (hb7.mono (by omega))).setCell (p:=⟨w.heap.size,1,none⟩) (Nat.le_refl _) _) 2 0 _) 2 1 _) 2 2 _⟩
theorem Cd.met_any (m:Nat) (hm:m≤200) (a b:Cd.Sh) (hb:b ≠ .none) (la:Cd.len m a) (lb:Cd.len m b) (sa:Cd.smallS a) (sb:Cd.smallS b) (w:World) :
    Calls Tryz.prog 106 #[Cd.lay a,Cd.lay b] w fun e w'=>e = .returned (Cd.lay (Cd.join a b))∧Below w.heap.size w w':=by
  cases b with
  | none=>exact (hb rfl).elim
  | clash =>
    cases a with
    | none=>exact Cd.met_02 _ _ _ _ w
    | clash=>exact Cd.met_22 _ _ _ _ w
    | known s k=>exact Cd.met_12 _ _ _ _ w
  | known t l =>
    cases a with
    | none=>exact Cd.met_01 _ _ _ _ w
    | clash=>exact Cd.met_21 _ _ _ _ w
    | known s k =>
      have h1:s.length=m:=la
      have h2:t.length=m:=lb
      by_cases e:k=l
      · have ej:Cd.join (.known s k) (.known t l) = .known (Cd.agree s t) k:=by rw [Cd.join,if_pos e]
        rw [ej]
        refine Cd.met_yes _ _ _ _ (by rw [Cd.bs_eq sa.2 sb.2];simp [e]) (Cd.bs (Cd.agree s t)) ?_ (by rw [Cd.bs_size,Cd.bs_size];omega) (by rw [Cd.bs_size];omega) w
        rw [Cd.agB_bs sa.1 sb.1];rfl
      · have ej:Cd.join (.known s k) (.known t l) = .clash:=by rw [Cd.join,if_neg e]
        rw [ej]
        exact Cd.met_no _ _ _ _ (by rw [Cd.bs_eq sa.2 sb.2];simp [e]) w
end Go.Proofs.YtbkhedpabfanoaaGreatDoor
namespace Go.Proofs.YtbkhedpabfanoaaGreatDoor
open Go.RowKit

def Cd.ends (c:List Cd.Fn) (f:Cd.Fn) (op:Int):Int × Int :=
  if op=2∨op=3 then (0,f.slots - 1)
  else if op=5 then (1,3)
  else if op=6 then (3,18)
  else if op=7 then (3,10)
  else if op=8 then (1,12)
  else if op=9 then (0,(c.length:Int) - 1)
  else if op=10∨op=11 then (0,(f.ins.length:Int))
  else if op=12∧f.result≠0 then (1,1)
  else (0,0)
set_option maxRecDepth 100000 in
set_option maxHeartbeats 2000000 in
theorem Cd.ends_any (c:List Cd.Fn) (f:Cd.Fn) (op:Int) (h1:2≤op) (h16:op≤16) (ca ia:Option Addr) (cc ic:Nat) (pv:Value) (hcl:c.length≤1048576) (_hil:f.ins.length≤1048576) (hsl : -1000000≤f.slots) (hsh:f.slots≤1000000) (w:World) :
    Calls Tryz.prog 90 #[.agg #[.slice ca c.length cc],Cd.fnV f pv (.slice ia f.ins.length ic),.int .i64 op] w fun e w'=>e = .returned (.tuple #[.int .i64 (Cd.ends c f op).1,.int .i64 (Cd.ends c f op).2])∧Below w.heap.size w w':=by
  obtain ⟨Y1,hY1⟩:∃ Y,w.alloc (.cells #[.slice ca c.length cc] 24)=Y:=⟨_,rfl⟩
  have hb1:Below w.heap.size w Y1:=by rw [← hY1];exact Cd.b1 w _
  have hs1:Y1.heap.size=w.heap.size+1:=by rw [← hY1];exact World.size_alloc _ _
  have p1_0:Y1.heap[w.heap.size]? = some (.cells #[.slice ca c.length cc] 24):=by rw [← hY1];exact Cd.new_at w _
  obtain ⟨Y2,hY2⟩:∃ Y,Y1.alloc (.cells #[.string f.name,pv,.int .i64 f.result,.int .i64 f.slots,.slice ia f.ins.length ic] 37)=Y:=⟨_,rfl⟩
  have hb2:Below w.heap.size w Y2:=by rw [← hY2];exact Cd.Below.new hb1 _
  have hs2:Y2.heap.size=w.heap.size+2:=by rw [← hY2,World.size_alloc];omega
  have p2_0:Y2.heap[w.heap.size]? = some (.cells #[.slice ca c.length cc] 24):=by rw [← hY2];exact Cd.keepH _ p1_0
  have p2_1:Y2.heap[w.heap.size+1]? = some (.cells #[.string f.name,pv,.int .i64 f.result,.int .i64 f.slots,.slice ia f.ins.length ic] 37):=by rw [← hY2,← hs1];exact Cd.new_at _ _
  clear p1_0
  have c0_0:Y2.cell? ⟨w.heap.size,0,none⟩=some (.slice ca c.length cc):=by rw [Lib.cell_of_heap p2_0];rfl
  have c1_0:Y2.cell? ⟨w.heap.size+1,0,none⟩=some (.string f.name):=by rw [Lib.cell_of_heap p2_1];rfl
  have c1_1:Y2.cell? ⟨w.heap.size+1,1,none⟩=some (pv):=by rw [Lib.cell_of_heap p2_1];rfl
  have c1_2:Y2.cell? ⟨w.heap.size+1,2,none⟩=some (.int .i64 f.result):=by rw [Lib.cell_of_heap p2_1];rfl
  have c1_3:Y2.cell? ⟨w.heap.size+1,3,none⟩=some (.int .i64 f.slots):=by rw [Lib.cell_of_heap p2_1];rfl
  have c1_4:Y2.cell? ⟨w.heap.size+1,4,none⟩=some (.slice ia f.ins.length ic):=by rw [Lib.cell_of_heap p2_1];rfl
  clear p2_0 p2_1 hb1
  have hw1:wrap64 (f.slots - 1)=f.slots - 1:=IntWalk.wrap64_in _ (by omega)
  have hw2:wrap64 ((c.length:Int) - 1)=(c.length:Int) - 1:=IntWalk.wrap64_in _ (by omega)
  have h:op=2∨op=3∨op=4∨op=5∨op=6∨op=7∨op=8∨op=9∨op=10∨op=11∨op=12∨op=13∨op=14∨op=15∨op=16:=by omega
  unfold Cd.fnV
  rcases h with rfl | rfl | rfl | rfl | rfl | rfl | rfl | rfl | rfl | rfl | rfl | rfl | rfl | rfl | rfl
  case inr.inr.inr.inr.inr.inr.inr.inr.inr.inr.inl =>
    by_cases hr:f.result=0
    · have hrb:(f.result != 0)=false:=by simp [hr]
      have HE:Hid (Cd.ends c f 12=(0,0)):=by rw [Hid];simp [Cd.ends,hr]
      rw [HE.out]
      clear hr
      go_enter Tryz.func90,Tryz.ntmps90
      go_wp2_with fail
      go_ret2
      exact ⟨rfl,hb2⟩
    · have hrb:(f.result != 0)=true:=by simp [hr]
      have HE:Hid (Cd.ends c f 12=(1,1)):=by rw [Hid];simp [Cd.ends,hr]
      rw [HE.out]
      clear hr
      go_enter Tryz.func90,Tryz.ntmps90
      go_wp2_with fail
      go_ret2
      exact ⟨rfl,hb2⟩
  all_goals
    go_enter Tryz.func90,Tryz.ntmps90
    go_wp2_with fail
    first
      | (go_ret2;exact ⟨by simp [Cd.ends],hb2⟩)
      | (go_quiet (fail);go_wp2_with fail;go_ret2;exact ⟨by simp [Cd.ends],Cd.belowD' _ hb2⟩)
end Go.Proofs.YtbkhedpabfanoaaGreatDoor
