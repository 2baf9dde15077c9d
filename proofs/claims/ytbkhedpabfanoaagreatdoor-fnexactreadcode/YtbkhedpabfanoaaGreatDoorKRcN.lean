import Derived.Test.YtbkhedpabfanoaaGreatDoorKRcM
import Derived.Test.YtbkhedpabfanoaaGreatDoorKRcG
import Derived.Test.YtbkhedpabfanoaaGreatDoorKCfYr
namespace Go.Proofs.YtbkhedpabfanoaaGreatDoor
open Go.RowKit

def Rc.SfnPost (m:Nat) (w0:World) (g:Nat) (r:ByteArray) (w:World) (e:Ending) (w':World):Prop :=
  (∃ (E:List Rc.En) (a:Option Addr) (cap:Nat),e = .returned (.tuple #[.slice a E.length cap,.nilIface])∧Rc.lfit m Rc.fnFit (Rc.fs E)∧Rc.Own w.heap.size w' (.slice a E.length cap) E∧Rc.Rok w0 g r w (Rc.lenc Wc.fn) (Rc.fs E) w')∨(∃ ea,e = .returned (.tuple #[.slice none 0 0,.iface 214 (.pointer (some ea))])∧Rc.Rno w0 g r w (Rc.lenc Wc.fn) (Rc.lfit m Rc.fnFit) w')
set_option maxRecDepth 100000 in
set_option maxHeartbeats 2000000 in
theorem Rc.sfn_any (w0:World) (g:Nat) (r:ByteArray) (w:World) (hT:Rc.Tb w0) (hR:Rc.Rr w0 g r w) :
    Calls Tryz.prog 38 #[.pointer (some ⟨g,0,none⟩),.int .i64 60,.func (Fn.func 39) #[.pointer (some ⟨g,0,none⟩)] #[]] w (Rc.SfnPost 60 w0 g r w):=by
  obtain ⟨i0,hi0,hz0,hz1,hz2⟩:=info_parts Rc.infoFn
  have hgw:=hR.lt
  have hww:=hR.bel.size
  have HC:Hid (Calls Tryz.prog 51 #[.pointer (some ⟨g,0,none⟩),.int .i64 60] w (Rc.UPost 60 w0 g r w)):=Rc.upTo_any 60 (by omega) w0 g r w hT hR
  have HRD:Hid (∀ (r:ByteArray) (U:World),Rc.Rr w0 g r U→Calls Tryz.prog 39 #[.pointer (some ⟨g,0,none⟩)] U (Rc.FPost w0 g r U)):=fun r U h=>Rc.ifn_any w0 g r U hT h
  clear hT hR
  go_enter Tryz.func38,Tryz.ntmps38
  go_wp2_with fail
  refine HC.out.mono ?_
  rintro e w1 (⟨n,rfl,hn,r1,hl,hR1,hF1⟩ | ⟨ea,rfl,hno,r1,hR1,hF1⟩)
  rotate_left
  · have HNO:Hid (Rc.Rno w0 g r w (Rc.lenc Wc.fn) (Rc.lfit 60 Rc.fnFit) w1):=⟨Rc.no_count hno,r1,hR1,hF1⟩
    clear hno hR1 hF1
    go_wp2_with fail
    go_ret2
    exact .inr ⟨ea,rfl,HNO.out⟩
  have HL:Hid (r.data.toList=Wc.num n++r1.data.toList):=hl
  have HR1:Hid (Rc.Rr w0 g r1 w1):=hR1
  have HF1:Hid (Rc.Fr (fun k=>k=g) w w1):=hF1
  clear hl hR1 hF1
  go_wp2_with fail
  go_loopw [10,23] (fun tl ti wr => ∃ (i:Nat) (E:List Rc.En) (a:Option Addr) (cap:Nat) (ri:ByteArray),i≤n∧E.length=i∧tl = .slice a E.length cap∧ti = .int .i64 (i:Int)∧(∀ x ∈ Rc.fs E,Rc.fnFit x)∧r1.data.toList=(Rc.fs E).flatMap Wc.fn++ri.data.toList∧Rc.Own w.heap.size wr (.slice a E.length cap) E∧Rc.Rr w0 g ri wr∧Rc.Fr (fun k=>k=g) w wr) (fun _ ti _=>n - (intOf ti).toNat)
  case atStart=>exact ⟨0,[],none,0,r1,by omega,rfl,rfl,rfl,fun x hx=>by simp [Rc.fs] at hx,by simp [Rc.fs],Rc.Own.nil _ _,HR1.out,HF1.out⟩
  case round =>
    obtain ⟨i,E,a,cap,ri,hi,hli,rfl,rfl,hfit,hl1,hown,hRi,hFi⟩:=hrel
    have HFI:Hid (∀ x ∈ Rc.fs E,Rc.fnFit x):=hfit
    have HL1:Hid (r1.data.toList=(Rc.fs E).flatMap Wc.fn++ri.data.toList):=hl1
    have HOW:Hid (Rc.Own w.heap.size wr (.slice a E.length cap) E):=hown
    have HRI:Hid (Rc.Rr w0 g ri wr):=hRi
    have HFR:Hid (Rc.Fr (fun k=>k=g) w wr):=hFi
    have HLI:Hid ((Rc.fs E).length=i):=by rw [Hid,Rc.fs_len];exact hli
    have hln:E.length≤n:=by omega
    have HLE:Hid (E.length=i):=hli
    clear hfit hl1 hown hRi hFi hli HR1 HF1
    by_cases hlt:i < n
    · have hltI:(i:Int) < (n:Int):=by omega
      go_wp2_with fail
      refine (HRD.out ri wr HRI.out).mono ?_
      rintro e w2 (⟨⟨fn,fp,fr,fs,fi⟩,pa,pc,ia,ic,rfl,hft,hpo,hio,r2,hl2,hR2,hF2⟩ | ⟨⟨fn,fp,fr,fs,fi⟩,pa,pn,pc,ia,jn,ic,ea,rfl,hno,r2,hR2,hF2⟩)
      rotate_left
      · have HNO:Hid (∀ o:Obj,Rc.Rno w0 g r w (Rc.lenc Wc.fn) (Rc.lfit 60 Rc.fnFit) (w2.alloc o)):=fun o=>⟨Rc.no_list Rc.fn_one HL.out HFI.out HL1.out (by rw [HLI.out];exact hlt) hno,r2,hR2.keep (Wc.b1 w2 o),(HFR.out.trans hF2).trans (Rc.Fr.of_below (Wc.b1 w2 o))⟩
        clear hno hR2 hF2
        unfold Cd.fnV
        go_wp2_with fail
        go_ret2
        exact .inr ⟨ea,rfl,HNO.out _⟩
      have HO2:Hid (∀ o:Obj,Rc.Own w.heap.size (w2.alloc o) (.slice a E.length cap) E):=fun o=>(HOW.out.keep (fun k h1 h2=>hF2.keep k h2 (by omega))).below (Wc.b1 w2 o)
      have HPO:Hid (∀ o:Obj,(w2.alloc o).ownsRow wr.heap.size 3 1 (.slice pa fp.length pc) fp.length (Cd.ints fp)):=fun o=>hpo.alloc o
      have HIO:Hid (∀ o:Obj,(w2.alloc o).ownsRow wr.heap.size 54 4 (.slice ia fi.length ic) fi.length (Rc.insCs fi)):=fun o=>hio.alloc o
      have HF2:Hid (∀ o:Obj,Rc.Fr (fun k=>k=g) w (w2.alloc o)):=fun o=>(HFR.out.trans hF2).trans (Rc.Fr.of_below (Wc.b1 w2 o))
      have HR2:Hid (∀ o:Obj,Rc.Rr w0 g r2 (w2.alloc o)):=fun o=>hR2.keep (Wc.b1 w2 o)
      have HFIT:Hid (Rc.fnFit ⟨fn,fp,fr,fs,fi⟩):=hft
      have HENC:Hid (ri.data.toList=Wc.fn ⟨fn,fp,fr,fs,fi⟩++r2.data.toList):=hl2
      have HLT:Hid (∀ e ∈ E,∀ k,e.p.ownBlock=some k∨e.i.ownBlock=some k→k < wr.heap.size):=HOW.out.lt
      have hwr:=HFR.out.size
      clear hR2 hF2 hl2 HOW HRI HFR hpo hio hft
      unfold Cd.fnV
      go_wp2_with (first | (at_builtin;refine wpList_append_own _ rfl _ _ 22 rfl w.heap.size 37 i0 (.agg #[.string ⟨#[]⟩,.slice none 0 0,.int .i64 0,.int .i64 0,.slice none 0 0]) 5 80 Tryz.underlying22 hi0 hz0 hz1 hz2 rfl (by decide) _ _ _ rfl ((HO2.out _).row.alloc _) ⟨w2.heap.size+1,0,none⟩ 1 1 [.string fn,.slice pa fp.length pc,.int .i64 fr,.int .i64 fs,.slice ia fi.length ic] rfl rfl (fun j u hj=>by have h:=Rc.cells_new (w2.alloc (.cells #[.string fn,.slice pa fp.length pc,.int .i64 fr,.int .i64 fs,.slice ia fi.length ic] 37)) [.string fn,.slice pa fp.length pc,.int .i64 fr,.int .i64 fs,.slice ia fi.length ic] 37 j u hj;rw [World.size_alloc] at h;exact h) (fun x hx=>by simp at hx;rcases hx with rfl | rfl | rfl | rfl | rfl <;> rfl) (by unfold maxLen;omega) (by omega) (by have:=(HF2.out (.cells #[] 0)).size;simp at this ⊢;omega) ?_;intro v' w3 hown' hg3 _))
      obtain ⟨a3,c3,hv3⟩:=Cd.rowLen hown'
      subst hv3
      have HO3:Hid (Rc.Own w.heap.size w3 (.slice a3 (E.length+1) c3) (E++[⟨⟨fn,fp,fr,fs,fi⟩,.slice pa fp.length pc,.slice ia fi.length ic⟩])):=(HO2.out _).add (HPO.out _) (HIO.out _) hwr HLT.out hown' hg3
      have HF3:Hid (Rc.Fr (fun k=>k=g) w w3):=Rc.grown_fr (HF2.out _) hg3 (Rc.lt_row (HO2.out (.cells #[] 0)).row)
      have HR3:Hid (Rc.Rr w0 g r2 w3):=(HR2.out _).grown hg3 (Rc.lt_row (HO2.out (.cells #[] 0)).row) hgw hww
      have HFA:Hid (∀ x ∈ Rc.fs (E++[⟨⟨fn,fp,fr,fs,fi⟩,.slice pa fp.length pc,.slice ia fi.length ic⟩]),Rc.fnFit x):=fun x hx=>by
        rw [Rc.fs_app] at hx
        rcases List.mem_append.1 hx with h | h
        · exact HFI.out x h
        · rw [List.mem_singleton.1 h];exact HFIT.out
      have HLA:Hid (r1.data.toList=(Rc.fs (E++[⟨⟨fn,fp,fr,fs,fi⟩,.slice pa fp.length pc,.slice ia fi.length ic⟩])).flatMap Wc.fn++r2.data.toList):=by
        rw [Hid,HL1.out,HENC.out,Rc.fs_app,List.flatMap_append,List.append_assoc];simp [Rc.fs]
      clear hown' hg3 HO2 HF2 HR2 HFI HFIT HENC HL1 HPO HIO HLT
      go_roundw
      case rel=>exact ⟨i+1,_,a3,c3,r2,by omega,by simp [HLE.out],by rw [List.length_append];rfl,by go_num,HFA.out,HLA.out,by rw [List.length_append];exact HO3.out,HR3.out,HF3.out⟩
      case measure=>simp [intOf];omega
    · have hltI:¬ (i:Int) < (n:Int):=by omega
      have HOK:Hid (Rc.lfit 60 Rc.fnFit (Rc.fs E)∧Rc.Rok w0 g r w (Rc.lenc Wc.fn) (Rc.fs E) wr):=⟨⟨by rw [Rc.fs_len];omega,HFI.out⟩,ri,by rw [HL.out,HL1.out,Rc.lenc,HLI.out,List.append_assoc,show i=n by omega],HRI.out,HFR.out⟩
      go_wp2_with fail
      go_ret2
      exact .inl ⟨E,a,cap,rfl,HOK.out.1,HOW.out,HOK.out.2⟩
end Go.Proofs.YtbkhedpabfanoaaGreatDoor
namespace Go.Proofs.YtbkhedpabfanoaaGreatDoor
open Go.RowKit

structure Rc.CSt (w w0:World) (g:Nat) (r:ByteArray) (R:Nat) (U:World):Prop where
  rd:Rc.Rr w0 g r U
  rb:U.heap[R]? = some (.cells #[.slice none 0 0] 24)
  fr:Rc.Fr (fun k=>k=g) w U
  ne:R≠g∧w.heap.size≤R∧w0.heap.size≤R
theorem Rc.CSt.call {w w0:World} {g:Nat} {r r':ByteArray} {R:Nat} {U U':World} (h:Rc.CSt w w0 g r R U) (hr:Rc.Rr w0 g r' U') (hf:Rc.Fr (fun k=>k=g) U U'):Rc.CSt w w0 g r' R U' :=
  ⟨hr,(hf.keep R (Array.getElem?_eq_some_iff.1 h.rb).1 h.ne.1).trans h.rb,h.fr.trans hf,h.ne⟩
theorem Rc.CSt.fin {w w0:World} {g:Nat} {r:ByteArray} {R:Nat} {U:World} (h:Rc.CSt w w0 g r R U) (x:Value):∃ U',U.setCell ⟨R,0,none⟩ x=U'∧Rc.Rr w0 g r U'∧Rc.Fr (fun k=>k=g) w U'∧U'.cell? ⟨R,0,none⟩=some x:=by
  obtain ⟨n1,n2,n3⟩:=h.ne
  exact ⟨_,rfl,h.rd.oth n1 n3,h.fr.new R 0 _ n2,(Rc.cell1 (a:=x) (Rc.set_same (i:=0) (v:=x) h.rb)).1⟩
theorem Rc.own_cap {w:World} {B e size n:Nat} {a:Option Addr} {m cap:Nat} {xs:List Value} (h:w.ownsRow B e size (.slice a m cap) n xs):n≤cap:=by
  rcases h.2 with ⟨h1,h0⟩ | ⟨g,c,cur,h1,_,_,h2,_⟩
  · omega
  · injection h1 with _ _ h3;omega
theorem Rc.Own.set {A:Nat} {w:World} {v:Value} {E:List Rc.En} (h:Rc.Own A w v E) {R j:Nat} {x:Value} {cur:Array Value} (hR:w.heap[R]? = some (.cells cur 24)):Rc.Own A (w.setCell ⟨R,j,none⟩ x) v E :=
  ⟨Rc.own_set h.row hR (by decide),fun e he=>Rc.own_set (h.par e he) hR (by decide),fun e he=>Rc.own_set (h.ins e he) hR (by decide),h.apart⟩
def Rc.CPost (w0:World) (g:Nat) (s:ByteArray) (w:World) (e:Ending) (w':World):Prop :=
  ((∃ E a cap,e = .returned (.tuple #[.agg #[.slice a E.length cap],.nilIface])∧Rc.Own w.heap.size w' (.slice a E.length cap) E∧Rc.Is s (Rc.fs E))∨(∃ ea,e = .returned (.tuple #[.agg #[.slice none 0 0],.iface 214 (.pointer (some ea))])∧∀ c,¬ Rc.Is s c))∧∃ r',Rc.Rr w0 g r' w'∧Rc.Fr (fun k=>k=g) w w'
set_option maxRecDepth 100000 in
set_option maxHeartbeats 2000000 in
theorem Rc.icode_any (w0:World) (g:Nat) (s:ByteArray) (w:World) (hT:Rc.Tb w0) (hR:Rc.Rr w0 g s w) :
    Calls Tryz.prog 22 #[.pointer (some ⟨g,0,none⟩)] w (Rc.CPost w0 g s w):=by
  obtain ⟨R,HRR⟩:∃ R,Hid (w.heap.size=R):=⟨_,(rfl:w.heap.size=_)⟩
  obtain ⟨V,hV⟩:∃ V,w.alloc (.cells #[.slice none 0 0] 24)=V:=⟨_,rfl⟩
  have HS0:Hid (Rc.CSt w w0 g s R V):=by
    have hb:Below w.heap.size w V:=by rw [← hV];exact Wc.b1 w _
    have:=hR.lt
    have:=hR.bel.size
    have e:=HRR.out
    exact ⟨hR.keep hb,by rw [← hV,← e];exact (MapKept.heap_alloc w _).1,Rc.Fr.of_below hb,by omega,by omega,by omega⟩
  obtain ⟨c0,f0⟩:=Rc.cell1 HS0.out.rd.blk
  by_cases hlong:200000 < s.size
  · have hlongI:(200000:Int) < (s.size:Int):=by omega
    have HNO:Hid (∀ c,¬ Rc.Is s c):=fun c hc=>by have:=hc.size;omega
    go_enter Tryz.func22,Tryz.ntmps22
    go_wp2_with fail
    rw [HRR.out]
    obtain ⟨ea,hea⟩:=(hT.below HS0.out.rd.bel).form
    have hea1:V.drew.cell? ⟨1,0,none⟩=some (.iface 214 (.pointer (some ea))):=hea
    have HD:Hid (Rc.CSt w w0 g _ R V.drew):=HS0.out.call (HS0.out.rd.keep (w':=V.drew) ⟨rfl,rfl,rfl,Nat.le_refl _,fun _ _=>rfl⟩) ⟨rfl,rfl,rfl,Nat.le_refl _,fun _ _ _=>rfl⟩
    obtain ⟨r0,q0⟩:=Rc.cell1 HS0.out.rb
    have hea2:(V.drew.setCell ⟨R,0,none⟩ (.slice none 0 0)).cell? ⟨1,0,none⟩=some (.iface 214 (.pointer (some ea))):=by rw [World.cell?_setCell_far _ _ _ _ (by show R≠1;have:=hT.siz;have:=HD.out.ne;omega)];exact hea1
    obtain ⟨U5,hU5,hR5,hF5,d0⟩:=HD.out.fin (.slice none 0 0)
    rw [hU5] at hea2
    go_wp2_with fail
    go_region_held3 (fun W=>W.cell? ⟨1,0,none⟩=some (.iface 214 (.pointer (some ea)))) (with_reducible first | exact hea1 | exact hea2) (fail)
    go_wp2_with fail
    exact bodyPost_ret (v:=.tuple #[.agg #[.slice none 0 0],.iface 214 (.pointer (some ea))]) (by simp [results,Tryz.results22,go_sem,d0]) rfl ⟨.inr ⟨ea,rfl,HNO.out⟩,_,hR5,hF5⟩
  have hlongI:¬ (200000:Int) < (s.size:Int):=by omega
  go_enter Tryz.func22,Tryz.ntmps22
  go_wp2_with fail
  rw [HRR.out]
  refine (Tryz.strings_CutPrefix s ⟨#[109,105,108,108,49]⟩ V).mono ?_
  rintro e w1 ⟨rfl,rfl⟩
  clear hV
  cases hpre:Lib.hasPrefix s.data.toList [109,105,108,108,49] with
  | false =>
    have HNO:Hid (∀ c,¬ Rc.Is s c):=fun c hc=>by
      have:Lib.hasPrefix s.data.toList [109,105,108,108,49]=true:=by
        unfold Lib.hasPrefix
        rw [List.isPrefixOf_iff_prefix]
        exact ⟨s.data.toList.drop 5,by rw [← hc.head.1,List.take_append_drop]⟩
      rw [hpre] at this;cases this
    obtain ⟨u,HUU⟩:∃ u,Hid ((⟨(Lib.trimPrefix s.data.toList [109,105,108,108,49]).toArray⟩:ByteArray)=u):=⟨_,(rfl:(⟨(Lib.trimPrefix s.data.toList [109,105,108,108,49]).toArray⟩:ByteArray)=_)⟩
    rw [HUU.out]
    obtain ⟨ea,hea⟩:=(hT.below HS0.out.rd.bel).head
    have hea1:w1.drew.cell? ⟨2,0,none⟩=some (.iface 214 (.pointer (some ea))):=hea
    have HD:Hid (Rc.CSt w w0 g _ R w1.drew):=HS0.out.call (HS0.out.rd.keep (w':=w1.drew) ⟨rfl,rfl,rfl,Nat.le_refl _,fun _ _=>rfl⟩) ⟨rfl,rfl,rfl,Nat.le_refl _,fun _ _ _=>rfl⟩
    obtain ⟨r0,q0⟩:=Rc.cell1 HS0.out.rb
    have hea2:(w1.drew.setCell ⟨R,0,none⟩ (.slice none 0 0)).cell? ⟨2,0,none⟩=some (.iface 214 (.pointer (some ea))):=by rw [World.cell?_setCell_far _ _ _ _ (by show R≠2;have:=hT.siz;have:=HD.out.ne;omega)];exact hea1
    obtain ⟨U5,hU5,hR5,hF5,d0⟩:=HD.out.fin (.slice none 0 0)
    rw [hU5] at hea2
    go_wp2_with fail
    go_region_held3 (fun W=>W.cell? ⟨2,0,none⟩=some (.iface 214 (.pointer (some ea)))) (with_reducible first | exact hea1 | exact hea2) (fail)
    go_wp2_with fail
    exact bodyPost_ret (v:=.tuple #[.agg #[.slice none 0 0],.iface 214 (.pointer (some ea))]) (by simp [results,Tryz.results22,go_sem,d0]) rfl ⟨.inr ⟨ea,rfl,HNO.out⟩,_,hR5,hF5⟩
  | true =>
    have hdrop:s.data.toList=[109,105,108,108,49]++s.data.toList.drop 5:=by
      unfold Lib.hasPrefix at hpre
      rw [List.isPrefixOf_iff_prefix] at hpre
      obtain ⟨t,ht⟩:=hpre
      rw [← ht];simp
    have htrim:Lib.trimPrefix s.data.toList [109,105,108,108,49]=s.data.toList.drop 5:=by unfold Lib.trimPrefix;rw [if_pos hpre];rfl
    rw [htrim]
    obtain ⟨u,HUU⟩:∃ u,Hid ((⟨(s.data.toList.drop 5).toArray⟩:ByteArray)=u):=⟨_,(rfl:(⟨(s.data.toList.drop 5).toArray⟩:ByteArray)=_)⟩
    have HUL:Hid (u.data.toList=s.data.toList.drop 5):=by rw [Hid,← HUU.out]
    have hus:u.size≤1048576:=by rw [← Rc.ba_len,HUL.out,List.length_drop,Rc.ba_len];have:=hR.siz;omega
    have HFM:Hid (∀ c t,u.data.toList=Rc.lenc Wc.fn c++t→Wc.form c++t=s.data.toList):=fun c t h=>by
      rw [hdrop,← HUL.out,h];simp [Wc.form,Wc.fns,Rc.lenc]
    have HIS:Hid (∀ c,Rc.Is s c→u.data.toList=Rc.lenc Wc.fn c++[]∧Rc.lfit 60 Rc.fnFit c):=fun c hc=>⟨by rw [HUL.out,hc.rest,Rc.lenc,List.append_assoc];rfl,hc.fit⟩
    rw [HUU.out]
    clear hdrop htrim hpre hR
    have HS1:Hid (Rc.CSt w w0 g u R (w1.setCell ⟨g,0,none⟩ (.string u))):=HS0.out.call (HS0.out.rd.set u hus) (Rc.Fr.set _ _ _ _ rfl)
    obtain ⟨V1,hV1⟩:∃ V,w1.setCell ⟨g,0,none⟩ (.string u)=V:=⟨_,rfl⟩
    rw [hV1] at HS1
    go_wp2_with fail
    clear c0 f0 hV1
    refine (Rc.sfn_any w0 g u V1 hT HS1.out.rd).mono ?_
    rintro e w2 (⟨E,a,cap,rfl,hfit,hown,r2,hl,hR2,hF2⟩ | ⟨ea,rfl,hno,r2,hR2,hF2⟩)
    rotate_left
    · have HS2:Hid (Rc.CSt w w0 g r2 R w2):=HS1.out.call hR2 hF2
      have HNO:Hid (∀ c,¬ Rc.Is s c):=fun c hc=>hno c [] (HIS.out c hc).2 (HIS.out c hc).1
      obtain ⟨r0,q0⟩:=Rc.cell1 HS2.out.rb
      obtain ⟨U5,hU5,hR5,hF5,d0⟩:=HS2.out.fin (.slice none 0 0)
      clear hno hR2 hF2
      go_wp2_with fail
      exact bodyPost_ret (v:=.tuple #[.agg #[.slice none 0 0],.iface 214 (.pointer (some ea))]) (by simp [results,Tryz.results22,go_sem,d0]) rfl ⟨.inr ⟨ea,rfl,HNO.out⟩,_,hR5,hF5⟩
    have HS2:Hid (Rc.CSt w w0 g r2 R w2):=HS1.out.call hR2 hF2
    have HO2:Hid (Rc.Own w.heap.size w2 (.slice a E.length cap) E):=hown.mono HS1.out.fr.size
    have HFT:Hid (Rc.lfit 60 Rc.fnFit (Rc.fs E)):=hfit
    have HL2:Hid (u.data.toList=Rc.lenc Wc.fn (Rc.fs E)++r2.data.toList):=hl
    clear hown hfit hl hR2 hF2 HS1 HS0
    obtain ⟨c0,f0⟩:=Rc.cell1 HS2.out.rd.blk
    by_cases hre:r2=⟨#[]⟩
    rotate_left
    · have HNO:Hid (∀ c,¬ Rc.Is s c):=fun c hc=>by
        obtain ⟨e1,e2⟩:=HIS.out c hc
        have:=(Rc.lenc_one Rc.fn_one 60 _ _ _ _ HFT.out e2 (HL2.out.symm.trans e1)).2
        exact hre (Rc.ba_eq this)
      have hreb:(r2.toList == ([]:List UInt8))=false:=by
        rw [beq_eq_false_iff_ne,ByteArray.toList_eq];intro h;exact hre (Rc.ba_eq h)
      have hreb2:r2.toList.isEmpty=false:=by
        cases h:r2.toList.isEmpty with
        | false=>rfl
        | true=>exact absurd (Rc.text_nil h) hre
      clear hre
      obtain ⟨ea,hea⟩:=(hT.below HS2.out.rd.bel).rest
      have hea1:w2.drew.cell? ⟨3,0,none⟩=some (.iface 214 (.pointer (some ea))):=hea
      have HD:Hid (Rc.CSt w w0 g _ R w2.drew):=HS2.out.call (HS2.out.rd.keep (w':=w2.drew) ⟨rfl,rfl,rfl,Nat.le_refl _,fun _ _=>rfl⟩) ⟨rfl,rfl,rfl,Nat.le_refl _,fun _ _ _=>rfl⟩
      obtain ⟨r0,q0⟩:=Rc.cell1 HS2.out.rb
      have hea2:(w2.drew.setCell ⟨R,0,none⟩ (.slice none 0 0)).cell? ⟨3,0,none⟩=some (.iface 214 (.pointer (some ea))):=by rw [World.cell?_setCell_far _ _ _ _ (by show R≠3;have:=hT.siz;have:=HD.out.ne;omega)];exact hea1
      obtain ⟨U5,hU5,hR5,hF5,d0⟩:=HD.out.fin (.slice none 0 0)
      rw [hU5] at hea2
      go_wp2_with fail
      go_region_held3 (fun W=>W.cell? ⟨3,0,none⟩=some (.iface 214 (.pointer (some ea)))) (with_reducible first | exact hea1 | exact hea2) (fail)
      go_wp2_with fail
      exact bodyPost_ret (v:=.tuple #[.agg #[.slice none 0 0],.iface 214 (.pointer (some ea))]) (by simp [results,Tryz.results22,go_sem,d0]) rfl ⟨.inr ⟨ea,rfl,HNO.out⟩,_,hR5,hF5⟩
    have hreb:(r2.toList == ([]:List UInt8))=true:=by rw [hre,ByteArray.toList_eq];rfl
    have hreb2:r2.toList.isEmpty=true:=by rw [hre,ByteArray.toList_eq];rfl
    have HFO:Hid (Wc.form (Rc.fs E)=s.data.toList):=by
      have:=HFM.out _ _ HL2.out
      rw [hre] at this
      rw [Hid]
      simpa using this
    clear hre HFM HUL
    go_wp2_with fail
    have hb3:Below w2.heap.size w2 (w2.alloc (.cells #[.slice a E.length cap] 24)):=Wc.b1 w2 _
    obtain ⟨W3,hW3⟩:∃ V,w2.alloc (.cells #[.slice a E.length cap] 24)=V:=⟨_,rfl⟩
    obtain ⟨C,HC⟩:∃ C,Hid (w2.heap.size=C):=⟨_,(rfl:w2.heap.size=_)⟩
    have HCB:Hid (W3.heap[C]? = some (.cells #[.slice a E.length cap] 24)):=by rw [Hid,← hW3,← HC.out];exact (MapKept.heap_alloc w2 _).1
    rw [hW3] at hb3
    rw [hW3,HC.out]
    clear hW3 c0 f0
    have HS3:Hid (Rc.CSt w w0 g r2 R W3):=HS2.out.call (HS2.out.rd.keep hb3) (Rc.Fr.of_below hb3)
    have HO3:Hid (Rc.Own w.heap.size W3 (.slice a E.length cap) E):=HO2.out.below hb3
    have HCK:Calls Tryz.prog 40 #[.agg #[.slice a E.length cap]] W3 (Cd.CheckPost (Rc.fs E) W3):=by
      have hcap:E.length≤cap:=Rc.own_cap HO3.out.row
      have h:=Cd.implCheck_any (Rc.fs E) a cap (by rw [Rc.fs_len];have:=HFT.out.1;rw [Rc.fs_len] at this;omega) (by rw [Rc.fs_len];exact hcap) (fun k hk=>by
        have hf:=HFT.out.2 _ (List.getElem_mem hk)
        obtain ⟨h1,h2,_,_,_,h3,_⟩:=hf
        exact ⟨by omega,by omega,by omega⟩) (fun k hk i hi=>(((HFT.out.2 _ (List.getElem_mem hk)).2.2.2.2.2.2 _ (List.getElem_mem hi))).2.2.1) W3 (by rw [Rc.fs_len];exact HO3.out.code) (hT.below HS3.out.rd.bel).ins (hT.below HS3.out.rd.bel).word
      rw [Rc.fs_len] at h
      exact h
    clear HS2 HO2 hb3
    refine HCK.mono ?_
    rintro e w4 ⟨⟨⟨k0,k1,k2⟩,rfl,hans⟩,hb4⟩
    unfold Cd.trip
    simp only
    have HAN:Hid (Cd.Answer (Rc.fs E) (k0,k1,k2)):=hans
    have HS4:Hid (Rc.CSt w w0 g r2 R w4):=HS3.out.call (HS3.out.rd.keep hb4) (Rc.Fr.of_below hb4)
    have HO4:Hid (Rc.Own w.heap.size w4 (.slice a E.length cap) E):=HO3.out.below hb4
    obtain ⟨x0,y0⟩:=Rc.cell1 ((hb4.block C (Array.getElem?_eq_some_iff.1 HCB.out).1).trans HCB.out)
    clear hans hb4 HCK HS3 HO3 HCB
    by_cases hk:k0=0
    · subst hk
      have HISE:Hid (Rc.Is s (Rc.fs E)):=⟨⟨_,HAN.out,rfl⟩,HFO.out,by omega,fun f hf i hi=>((HFT.out.2 f hf).2.2.2.2.2.2 i hi).2.2.1⟩
      obtain ⟨r0,q0⟩:=Rc.cell1 HS4.out.rb
      obtain ⟨U5,hU5,hR5,hF5,d0⟩:=HS4.out.fin (.slice a E.length cap)
      have HO5:Hid (Rc.Own w.heap.size U5 (.slice a E.length cap) E):=by rw [Hid,← hU5];exact HO4.out.set HS4.out.rb
      go_wp2_with fail
      exact bodyPost_ret (v:=.tuple #[.agg #[.slice a E.length cap],.nilIface]) (by simp [results,Tryz.results22,go_sem,d0]) rfl ⟨.inl ⟨E,a,cap,rfl,HO5.out,HISE.out⟩,_,hR5,hF5⟩
    · have hkb:(k0 == 0)=false:=by simp [hk]
      have hkc:(k0 != 0)=true:=by simp [hk]
      have HNO:Hid (∀ c,¬ Rc.Is s c):=fun c hc=>by
        have e:c=Rc.fs E:=Rc.form_one hc.fit HFT.out (hc.form.trans HFO.out.symm)
        subst e
        obtain ⟨q,h1,h2⟩:=hc.ok
        have:=HAN.out.one h1
        rw [← this] at h2
        exact hk h2
      clear hk
      obtain ⟨ea,hea⟩:=(hT.below HS4.out.rd.bel).code
      have hea1:w4.drew.cell? ⟨4,0,none⟩=some (.iface 214 (.pointer (some ea))):=hea
      have HD:Hid (Rc.CSt w w0 g _ R w4.drew):=HS4.out.call (HS4.out.rd.keep (w':=w4.drew) ⟨rfl,rfl,rfl,Nat.le_refl _,fun _ _=>rfl⟩) ⟨rfl,rfl,rfl,Nat.le_refl _,fun _ _ _=>rfl⟩
      obtain ⟨r0,q0⟩:=Rc.cell1 HS4.out.rb
      have hea2:(w4.drew.setCell ⟨R,0,none⟩ (.slice none 0 0)).cell? ⟨4,0,none⟩=some (.iface 214 (.pointer (some ea))):=by rw [World.cell?_setCell_far _ _ _ _ (by show R≠4;have:=hT.siz;have:=HD.out.ne;omega)];exact hea1
      obtain ⟨U5,hU5,hR5,hF5,d0⟩:=HD.out.fin (.slice none 0 0)
      rw [hU5] at hea2
      go_wp2_with fail
      go_region_held3 (fun W=>W.cell? ⟨4,0,none⟩=some (.iface 214 (.pointer (some ea)))) (with_reducible first | exact hea1 | exact hea2) (fail)
      go_wp2_with fail
      exact bodyPost_ret (v:=.tuple #[.agg #[.slice none 0 0],.iface 214 (.pointer (some ea))]) (by simp [results,Tryz.results22,go_sem,d0]) rfl ⟨.inr ⟨ea,rfl,HNO.out⟩,_,hR5,hF5⟩
end Go.Proofs.YtbkhedpabfanoaaGreatDoor
