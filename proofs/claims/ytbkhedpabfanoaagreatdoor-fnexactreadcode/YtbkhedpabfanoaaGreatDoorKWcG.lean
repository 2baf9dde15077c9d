import Derived.Test.YtbkhedpabfanoaaGreatDoorKWcB
import Derived.Test.YtbkhedpabfanoaaGreatDoorKCdYA
namespace Go.Proofs.YtbkhedpabfanoaaGreatDoor
open Go.RowKit

theorem Cd.Sound.fit {c:List Cd.Fn} (h:Cd.Sound c) (hn:∀ f ∈ c,f.name.size≤1048576):Wc.Fit c:=by
  refine ⟨h.len,hn,h.pl,fun f hf => ?_,fun f hf i hi h1 h2 => ?_⟩
  · obtain ⟨k,hk,rfl⟩:=List.getElem_of_mem hf
    exact (Cd.fnOk_bd (h.fns k hk)).2.2.1
  · obtain ⟨k,hk,rfl⟩:=List.getElem_of_mem hf
    obtain ⟨j,hj,rfl⟩:=List.getElem_of_mem hi
    have h3:=h.ins k hk j hj
    unfold Cd.insOk at h3
    by_cases hc:Cd.inR c[k].ins[j].op 1 16=false∨(Cd.hasA c[k].ins[j].op=false∧c[k].ins[j].a≠0)
    · rw [if_pos hc] at h3;exact absurd h3 (by decide)
    · rw [if_neg hc,if_pos h1] at h3
      unfold Val.valid at h3
      rw [if_neg (by show ¬ c[k].ins[j].a=1;omega),if_pos (by exact h2),Bool.and_eq_true,decide_eq_true_eq,decide_eq_true_eq] at h3
      have:=h3.2
      simp only at this
      omega
theorem Cd.Answer.sound {c:List Cd.Fn} {r:Int × Int × Int} (h:Cd.Answer c r) (hr:r.1=0):Cd.Sound c:=by
  by_cases hp:(Cd.plain c).1=0
  · exact Cd.plain_sound hp
  · unfold Cd.Answer at h
    rw [if_pos hp] at h
    rw [h] at hr
    exact absurd hr hp
def Wc.out (c:List Cd.Fn) (r:Int × Int × Int):ByteArray:=if r.1=0∧(Wc.form c).length≤200000 then ⟨(Wc.form c).toArray⟩ else ⟨#[]⟩
def Wc.WrPost (c:List Cd.Fn) (w:World) (e:Ending) (w':World):Prop:=(∃ r,e = .returned (.string (Wc.out c r))∧Cd.Answer c r)∧Below w.heap.size w w'
theorem Wc.out_long {c:List Cd.Fn} {r:Int × Int × Int} (h:200000 < (Wc.form c).length):Wc.out c r=⟨#[]⟩:=by unfold Wc.out;rw [if_neg (by omega)]
theorem Wc.out_wrong {c:List Cd.Fn} {r:Int × Int × Int} (h:r.1≠0):Wc.out c r=⟨#[]⟩:=by unfold Wc.out;rw [if_neg (fun x=>h x.1)]
theorem Wc.out_fine {c:List Cd.Fn} {r:Int × Int × Int} (h:r.1=0) (hl:(Wc.form c).length≤200000):Wc.out c r=⟨(Wc.form c).toArray⟩:=by unfold Wc.out;rw [if_pos ⟨h,hl⟩]
set_option maxRecDepth 100000 in
set_option maxHeartbeats 2000000 in
theorem Wc.ok_any (c:List Cd.Fn) (ca:Option Addr) (cc:Nat) (hcl:c.length≤1048576) (hpl:∀ k (hk:k < c.length),c[k].params.length≤1048576∧c[k].ins.length≤1048576) (w:World) (hC:Cd.CodeAt w.heap.size w (.slice ca c.length cc) c) :
    Calls Tryz.prog 20 #[.agg #[.slice ca c.length cc]] w fun e w'=>(∃ r,e = .returned (.bool (decide (r.1=0)))∧Cd.Answer c r)∧Below w.heap.size w w':=by
  have HS:Hid (∀ o:Obj,Calls Tryz.prog 34 #[.agg #[.slice ca c.length cc]] (w.alloc o) (Cd.CheckPost c (w.alloc o))):=fun o=>Cd.specCheck_any c ca cc hcl hpl (w.alloc o) (Cd.CodeAt.mono (hC.below (Wc.b1 w o)) (by simp))
  clear hC hpl
  go_enter Tryz.func20,Tryz.ntmps20
  go_wp2_with (first | (go_at_call 34;refine (HS.out _).mono ?_;rintro e w1 ⟨⟨⟨r0,r1,r2⟩,rfl,hans⟩,hb1⟩;unfold Cd.trip;simp only;have HA:Hid (Cd.Answer c (r0,r1,r2)):=hans;clear hans))
  go_ret
  refine ⟨⟨(r0,r1,r2), ?_,HA.out⟩,(Wc.b1 w _).trans (hb1.mono (by simp))⟩
  by_cases h:r0=0
  · subst h;rfl
  · simp [h]
set_option maxRecDepth 100000 in
set_option maxHeartbeats 2000000 in
theorem Wc.specWrite_any (c:List Cd.Fn) (ca:Option Addr) (cc:Nat) (hcl:c.length≤1048576) (hpl:∀ k (hk:k < c.length),c[k].params.length≤1048576∧c[k].ins.length≤1048576∧c[k].name.size≤1048576) (w:World) (hC:Cd.CodeAt w.heap.size w (.slice ca c.length cc) c) :
    Calls Tryz.prog 11 #[.agg #[.slice ca c.length cc]] w (Wc.WrPost c w):=by
  obtain ⟨Y1,hY1⟩:∃ Y,w.alloc (.cells #[.slice ca c.length cc] 24)=Y:=⟨_,rfl⟩
  have hb1:Below w.heap.size w Y1:=by rw [← hY1];exact Wc.b1 w _
  have hs1:Y1.heap.size=w.heap.size+1:=by rw [← hY1];exact World.size_alloc _ _
  have p1:Y1.heap[w.heap.size]? = some (.cells #[.slice ca c.length cc] 24):=by rw [← hY1];exact (MapKept.heap_alloc w _).1
  have c0:Y1.cell? ⟨w.heap.size,0,none⟩=some (.slice ca c.length cc):=by rw [Lib.cell_of_heap p1];rfl
  have HK:Hid (∀ U,Below Y1.heap.size Y1 U→U.cell? ⟨w.heap.size,0,none⟩=some (.slice ca c.length cc)∧Below w.heap.size w U):=fun U hU=>⟨(hU.cell (p:=⟨w.heap.size,0,none⟩) (by show w.heap.size < _;omega)).trans c0,hb1.trans (hU.mono hb1.size)⟩
  have HOK:Hid (Calls Tryz.prog 20 #[.agg #[.slice ca c.length cc]] Y1 fun e w'=>(∃ r,e = .returned (.bool (decide (r.1=0)))∧Cd.Answer c r)∧Below Y1.heap.size Y1 w'):=Wc.ok_any c ca cc hcl (fun k hk=>⟨(hpl k hk).1,(hpl k hk).2.1⟩) Y1 (Cd.CodeAt.mono (hC.below hb1) hb1.size)
  have HFO:Hid (∀ U,Cd.Sound c→Below w.heap.size w U→Calls Tryz.prog 21 #[.agg #[.slice ca c.length cc]] U fun e w' => ∃ v,e = .returned v∧Wc.At U.heap.size w' v (Wc.form c)∧Below U.heap.size U w'):=fun U hS hU=>Wc.form_any c (hS.fit (fun f hf=>by obtain ⟨k,hk,rfl⟩:=List.getElem_of_mem hf;exact (hpl k hk).2.2)) ca cc U (Cd.CodeAt.mono (hC.below hU) hU.size)
  clear hC hpl p1
  go_enter Tryz.func11,Tryz.ntmps11
  go_wp2_with (first | (go_at_call 20;refine HOK.out.mono ?_;rintro e w1 ⟨⟨⟨r0,r1,r2⟩,rfl,hans⟩,hb2⟩;have HA:Hid (Cd.Answer c (r0,r1,r2)):=hans;clear hans;obtain ⟨d0,hw1⟩:=HK.out w1 hb2))
  · have hz:r0≠0:=by simpa using ‹(!decide (r0=0))=true›
    go_ret
    exact ⟨⟨(r0,r1,r2),by rw [Wc.out_wrong hz];rfl,HA.out⟩,hw1⟩
  · have hz:r0=0:=by simpa using ‹(!decide (r0=0))=false›
    refine (HFO.out w1 (HA.out.sound hz) hw1).mono ?_
    rintro e w2 ⟨v2,rfl,ho2,hb3⟩
    obtain ⟨a2,c2,hv2⟩:=ho2.form
    subst hv2
    have hcv:=Mill.conv_own (P:=Tryz.prog) (src:=57) (dst:=9) Tryz.underlying57 Tryz.underlying5 Tryz.underlying9 ho2
    have HB:Hid (Below w.heap.size w w2):=hw1.trans (hb3.mono hw1.size)
    have HOL:Hid (200000 < (Wc.form c).length→Wc.out c (r0,r1,r2)=⟨#[]⟩):=fun h=>Wc.out_long h
    have HOF:Hid ((Wc.form c).length≤200000→Wc.out c (r0,r1,r2)=⟨(Wc.form c).toArray⟩):=fun h=>Wc.out_fine hz h
    clear ho2 hb3 HFO HOK HK d0 hz
    obtain ⟨n,HN⟩:∃ n,Hid ((Wc.form c).length=n):=⟨_,(rfl:(Wc.form c).length=_)⟩
    obtain ⟨b,HBB⟩:∃ b,Hid ((⟨(Wc.form c).toArray⟩:ByteArray)=b):=⟨_,(rfl:(⟨(Wc.form c).toArray⟩:ByteArray)=_)⟩
    rw [HBB.out] at hcv HOF
    rw [HN.out] at hcv HOL HOF ⊢
    by_cases hlong:200000 < n
    · have hI:(200000:Int) < (n:Int):=by omega
      go_wp2_with fail
      go_ret
      exact ⟨⟨(r0,r1,r2),by rw [HOL.out hlong];rfl,HA.out⟩,HB.out⟩
    · have hI:¬ (200000:Int) < (n:Int):=by omega
      go_wp2_with fail
      go_ret
      exact ⟨⟨(r0,r1,r2),by rw [HOF.out (by omega)];rfl,HA.out⟩,HB.out⟩
end Go.Proofs.YtbkhedpabfanoaaGreatDoor
