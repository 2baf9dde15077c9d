import Derived.Test.YtbkhedpabfanoaaGreatDoorKCfK
import Derived.Test.YtbkhedpabfanoaaGreatDoorKCeJ
namespace Go.Proofs.YtbkhedpabfanoaaGreatDoor
open Go.RowKit

theorem Cd.ents_len (c:List Cd.Fn) (f:Cd.Fn) (i:Cd.Ins) (hpl:∀ g ∈ c,g.params.length≤8):(Cd.ents c f i).length≤8:=by
  have hw:(Cd.want i.a).length≤3:=by
    unfold Cd.want
    repeat' (first | split)
    all_goals simp
  have hp:(c.getD i.a.toNat Cd.noFn).params.length≤8:=by
    by_cases hj:i.a.toNat < c.length
    · rw [List.getD_eq_getElem?_getD,List.getElem?_eq_getElem hj];exact hpl _ (List.getElem_mem hj)
    · rw [List.getD_eq_getElem?_getD,List.getElem?_eq_none (by omega)];simp [Cd.noFn]
  unfold Cd.ents
  repeat' (first | split)
  all_goals first | exact hp | (simp;done) | (rw [List.length_map];omega)
structure Cd.Right (c:List Cd.Fn) (f:Cd.Fn):Prop where
  cl:c.length≤60
  il:f.ins.length≤50000
  pl:∀ g ∈ c,g.params.length≤8
  fns:Cd.Fns c
  res:0≤f.result∧f.result≤10
  slots:0≤f.slots∧f.slots≤200
  ok:∀ (u:Nat) (hu:u < f.ins.length),Cd.insOk c f f.ins[u]=true
theorem Cd.left_any (c:List Cd.Fn) (f:Cd.Fn) (hR:Cd.Right c f) (at':Nat) (hat:at' < f.ins.length) (X:List Cd.Sh) (hX:X.length=f.ins.length) (sh:Cd.Sh) (hsh:X[at']'(by omega)=sh) (hn:sh ≠ .none) (hfine:Cd.fine sh) (hlen:Cd.len f.slots.toNat sh) (ca ia:Option Addr) (cc ic:Nat) (pv wv:Value) (lc gl:Nat) (g:Nat) (w:World) (hIn:Cd.LeftIn c f at' ca ia cc ic lc gl g X pv wv w) :
    Calls Tryz.prog 92 #[.pointer (some ⟨g,0,none⟩),.int .i64 (at':Int)] w fun e w'=>e = .returned (Cd.lay (Cd.behind c f at' sh))∧Below w.heap.size w w':=by
  have hel:=Cd.ents_len c f f.ins[at'] hR.pl
  have hok:=hR.ok at' hat
  cases sh with
  | none=>exact (hn rfl).elim
  | clash =>
    exact Cd.left_neg c f f.ins[at'] at' hat rfl hR.il hR.cl hR.pl hok X hX 2 ⟨#[]⟩ ⟨#[]⟩ (by rw [hsh];rfl) (by rw [hsh];rfl) (by rw [hsh];rfl) (.inl rfl) (by decide) hel ca ia cc ic pv wv lc gl g w hIn
  | known s k =>
    obtain ⟨hs,hk,h6⟩:=hfine
    have hsl:s.length=f.slots.toNat:=hlen
    have hs2:s.length≤200:=by have:=hR.slots;omega
    have hre:=Cd.reach_of (s:=s) (k:=k) hR.fns hR.res hok hsl hk
    have hbe:Cd.behind c f at' (.known s k)=Cd.leftP c f f.ins[at'] at' s k:=by
      rw [Cd.left_eq hat hre]
      show Cd.leaves c f (f.ins.getD at' Cd.noIns) at' s k=_
      rw [List.getD_eq_getElem?_getD,List.getElem?_eq_getElem hat];rfl
    rw [hbe]
    by_cases hlt:k.length < (Cd.ents c f f.ins[at']).length
    · have hcl:Cd.leftP c f f.ins[at'] at' s k = .clash:=by unfold Cd.leftP;rw [if_pos hlt]
      rw [hcl]
      exact Cd.left_neg c f f.ins[at'] at' hat rfl hR.il hR.cl hR.pl hok X hX 1 (Cd.bs s) (Cd.bs k) (by rw [hsh];rfl) (by rw [hsh];rfl) (by rw [hsh];rfl) (.inr ⟨by decide,by rw [Cd.bs_size];exact hlt⟩) (by rw [Cd.bs_size];exact h6) hel ca ia cc ic pv wv lc gl g w hIn
    · exact Cd.left_pos c f f.ins[at'] at' hat rfl hR.il hR.cl hR.pl hok X hX 1 (Cd.bs s) (Cd.bs k) (by rw [hsh];rfl) (by rw [hsh];rfl) (by rw [hsh];rfl) rfl s k _ rfl rfl hs hsl hs2 hk (k.length - (Cd.ents c f f.ins[at']).length) hre hR.fns rfl (by rw [Cd.bs_size];omega) (by rw [Cd.bs_size];exact h6) hel ca ia cc ic pv wv lc gl g w hIn
end Go.Proofs.YtbkhedpabfanoaaGreatDoor
namespace Go.Proofs.YtbkhedpabfanoaaGreatDoor
open Go.RowKit

def Cd.cmp3 (x y:Int):Int:=if x < y then -1 else if y < x then 1 else 0
theorem Cd.nan_any (x:Int) (w:World) :
    Calls Tryz.prog 128 #[.int .i64 x] w fun e w'=>e = .returned (.bool false)∧w=w':=by
  have h:(x != x)=false:=by simp
  go_enter Tryz.func128,Tryz.ntmps128
  go_wp2
  go_ret
  exact ⟨rfl,rfl⟩
theorem Cd.compare_any (x y r:Int) (HR:Hid (Cd.cmp3 x y=r)) (w:World) :
    Calls Tryz.prog 121 #[.int .i64 x,.int .i64 y] w fun e w'=>e = .returned (.int .i64 r)∧w=w':=by
  by_cases h1:x < y
  · have HE:Hid (-1=r):=by rw [Hid,← HR.out,Cd.cmp3,if_pos h1]
    go_enter Tryz.func121,Tryz.ntmps121
    go_wp2_with (go_at_call 128;refine (Cd.nan_any _ _).mono ?_;rintro e w' ⟨rfl,rfl⟩)
    go_ret
    exact ⟨Cd.retI HE.out,rfl⟩
  · by_cases h2:y < x
    · have HE:Hid (1=r):=by rw [Hid,← HR.out,Cd.cmp3,if_neg h1,if_pos h2]
      go_enter Tryz.func121,Tryz.ntmps121
      go_wp2_with (go_at_call 128;refine (Cd.nan_any _ _).mono ?_;rintro e w' ⟨rfl,rfl⟩)
      go_ret
      exact ⟨Cd.retI HE.out,rfl⟩
    · have HE:Hid (0=r):=by rw [Hid,← HR.out,Cd.cmp3,if_neg h1,if_neg h2]
      go_enter Tryz.func121,Tryz.ntmps121
      go_wp2_with (go_at_call 128;refine (Cd.nan_any _ _).mono ?_;rintro e w' ⟨rfl,rfl⟩)
      go_ret
      exact ⟨Cd.retI HE.out,rfl⟩
theorem Cd.desc_any (a b r:Int) (HR:Hid (Cd.cmp3 b a=r)) (w:World) :
    Calls Tryz.prog 108 #[.int .i64 a,.int .i64 b] w fun e w'=>e = .returned (.int .i64 r)∧w=w':=by
  go_enter Tryz.func108,Tryz.ntmps108
  go_wp2_with (go_at_call 121;refine (Cd.compare_any _ _ _ HR _).mono ?_;rintro e w' ⟨rfl,rfl⟩)
  go_ret
  exact ⟨rfl,rfl⟩
def Cd.down : List Int→Prop:=fun l => ∀ i j (h1:i < l.length) (h2:j < l.length),i < j→l[j] < l[i]
def Cd.SearchIs (l:List Int) (v:Int) (i:Nat) (b:Bool):Prop:=i≤l.length∧(∀ j (h:j < l.length),j < i→v < l[j])∧(∀ j (h:j < l.length),i≤j→l[j]≤v)∧b=decide (v ∈ l)
def Cd.SearchPost (l:List Int) (v:Int) (w:World) (e:Ending) (w':World):Prop:=(∃ (i:Nat) (b:Bool),e = .returned (.tuple #[.int .i64 (i:Int),.bool b])∧Cd.SearchIs l v i b)∧w=w'
theorem Cd.search_in (l:List Int) (v:Int) (hd:Cd.down l) (i:Nat) (hi:i < l.length) (h1:∀ j (h:j < l.length),j < i→v < l[j]) (h2:∀ j (h:j < l.length),i≤j→l[j]≤v):decide (v ∈ l)=decide (l[i]=v):=by
  by_cases e:l[i]=v
  · have:v ∈ l:=by rw [← e];exact List.getElem_mem hi
    simp [e,this]
  · have:¬ v ∈ l:=fun hm=>by
      obtain ⟨j,hj,ej⟩:=List.getElem_of_mem hm
      rcases Nat.lt_trichotomy j i with h | h | h
      · have:=h1 j hj h;omega
      · subst h;exact e ej
      · have a:=hd i j hi hj h
        have b:=h2 i hi (Nat.le_refl _)
        omega
    simp [e,this]
theorem Cd.search_out (l:List Int) (v:Int) (h1:∀ j (h:j < l.length),j < l.length→v < l[j]):decide (v ∈ l)=false:=by
  have:¬ v ∈ l:=fun hm=>by
    obtain ⟨j,hj,ej⟩:=List.getElem_of_mem hm
    have:=h1 j hj hj;omega
  simp [this]
set_option maxRecDepth 100000 in
set_option maxHeartbeats 2000000 in
theorem Cd.search_any (l:List Int) (v:Int) (hd:Cd.down l) (a:Option Addr) (cap:Nat) (hl:l.length≤1048576) (B:Nat) (w:World) (hL:Cd.IntsAt B w (.slice a l.length cap) l) :
    Calls Tryz.prog 107 #[.slice a l.length cap,.int .i64 v,.func (Fn.func 108) #[] #[]] w (Cd.SearchPost l v w):=by
  have HL:Hid (Cd.IntsAt B w (.slice a l.length cap) l):=hL
  have HD:Hid (Cd.down l):=hd
  clear hL hd
  obtain ⟨n,HN⟩:∃ n,Hid (l.length=n):=⟨_,(rfl:l.length=_)⟩
  have hn:n≤1048576:=by rw [← HN.out];exact hl
  rw [HN.out] at HL ⊢
  clear hl
  go_enter Tryz.func107,Tryz.ntmps107
  go_wp2_with fail
  go_loopw [9,10] (fun s t wr => ∃ i j:Nat,s = .int .i64 (i:Int)∧t = .int .i64 (j:Int)∧i≤j∧j≤n∧w=wr∧Hid (∀ q (h:q < l.length),q < i→v < l[q])∧Hid (∀ q (h:q < l.length),j≤q→l[q]≤v)) (fun s t _=>(intOf t).toNat - (intOf s).toNat)
  case atStart=>exact ⟨0,n,rfl,rfl,by omega,by omega,rfl,fun q h h'=>by omega,fun q h h'=>by have:=HN.out;omega⟩
  case round =>
    obtain ⟨i,j,rfl,rfl,hij,hjn,rfl,H1,H2⟩:=hrel
    by_cases hlt:i < j
    · have hltI:(i:Int) < (j:Int):=by omega
      obtain ⟨m,HM⟩:∃ m,Hid ((i+j) / 2=m):=⟨_,(rfl:(i+j) / 2=_)⟩
      have hm:m < l.length:=by have:=HM.out;have:=HN.out;omega
      have hmn:m < n:=by have:=HM.out;omega
      have hmI:((i:Int)+(j:Int)) / 2=(m:Int):=by have:=HM.out;omega
      have hmI2:(m:Int) < (n:Int):=by omega
      obtain ⟨g,o,rfl,d0⟩:∃ g o,a=some ⟨g,o,none⟩∧w.cell? ⟨g,o+m,none⟩=some (.int .i64 l[m]):=by
        obtain ⟨a',cp,e,hc⟩:=HL.out
        injection e with e1
        subst e1
        obtain ⟨g,o,h1,_,h2⟩:=hc m hm
        exact ⟨g,o,h1,h2⟩
      obtain ⟨x,HX⟩:∃ x,Hid (l[m]=x):=⟨_,(rfl:l[m]=_)⟩
      rw [HX.out] at d0
      by_cases hv:v < x
      · have HC:Hid (Cd.cmp3 v x = -1):=by rw [Hid,Cd.cmp3,if_pos hv]
        have H1':Hid (∀ q (h:q < l.length),q < m+1→v < l[q]):=fun q h h'=>by
          by_cases e:q=m
          · subst e;rw [HX.out];exact hv
          · have:=HD.out q m h hm (by omega);rw [HX.out] at this;omega
        go_wp2_with (go_at_call 108;refine (Cd.desc_any _ _ _ HC _).mono ?_;rintro e w' ⟨rfl,rfl⟩)
        exact ⟨⟨m+1,j,congrArg (Value.int IntKind.i64) (by omega),rfl,by have:=HM.out;omega,hjn,trivial,H1',H2⟩,by have:=HM.out;simp only [intOf];omega⟩
      · have H2':Hid (∀ q (h:q < l.length),m≤q→l[q]≤v):=fun q h h'=>by
          by_cases e:q=m
          · subst e;rw [HX.out];omega
          · have:=HD.out m q hm h (by omega);rw [HX.out] at this;omega
        obtain ⟨r,HC,hr0⟩:∃ r,Hid (Cd.cmp3 v x=r)∧¬ r < 0:=by
          refine ⟨_,(rfl:Cd.cmp3 v x=_), ?_⟩
          unfold Cd.cmp3;rw [if_neg hv];split <;> omega
        go_wp2_with (go_at_call 108;refine (Cd.desc_any _ _ _ HC _).mono ?_;rintro e w' ⟨rfl,rfl⟩)
        exact ⟨⟨i,m,rfl,rfl,by have:=HM.out;omega,by omega,trivial,H1,H2'⟩,by have:=HM.out;simp only [intOf];omega⟩
    · have hltI:¬ (i:Int) < (j:Int):=by omega
      have eij:i=j:=by omega
      subst eij
      by_cases hin:i < n
      · have hil:i < l.length:=by have:=HN.out;omega
        have hinI:(i:Int) < (n:Int):=by omega
        obtain ⟨g,o,rfl,d0⟩:∃ g o,a=some ⟨g,o,none⟩∧w.cell? ⟨g,o+i,none⟩=some (.int .i64 l[i]):=by
          obtain ⟨a',cp,e,hc⟩:=HL.out
          injection e with e1
          subst e1
          obtain ⟨g,o,h1,_,h2⟩:=hc i hil
          exact ⟨g,o,h1,h2⟩
        obtain ⟨x,HX⟩:∃ x,Hid (l[i]=x):=⟨_,(rfl:l[i]=_)⟩
        rw [HX.out] at d0
        have HSI:=Cd.search_in l v HD.out i hil H1.out H2.out
        have HS2:Hid (decide (v ∈ l)=decide (x=v)):=by rw [Hid,HSI,HX.out]
        have HLE:Hid (i≤l.length):=Nat.le_of_lt hil
        have hxv:x≤v:=by rw [← HX.out];exact H2.out i hil (Nat.le_refl _)
        obtain ⟨r,HC⟩:∃ r,Hid (Cd.cmp3 v x=r):=⟨_,(rfl:Cd.cmp3 v x=_)⟩
        by_cases hr:r=0
        · have HB:Hid (true=decide (v ∈ l)):=by
            have e:x=v:=by have h:=HC.out;rw [hr] at h;unfold Cd.cmp3 at h;split at h <;> (first | omega | (split at h <;> omega))
            rw [Hid,HS2.out];simp [e]
          subst hr
          clear HSI
          go_wp2_with (go_at_call 108;refine (Cd.desc_any _ _ _ HC _).mono ?_;rintro e w' ⟨rfl,rfl⟩)
          go_ret2
          exact ⟨⟨i,true,rfl,HLE.out,H1.out,H2.out,HB.out⟩,rfl⟩
        · have HB:Hid (false=decide (v ∈ l)):=by
            have e:¬ x=v:=fun e=>hr (by rw [← HC.out,e];simp [Cd.cmp3])
            rw [Hid,HS2.out];simp [e]
          have hrb:(r == 0)=false:=by simp [hr]
          clear HSI hr
          go_wp2_with (go_at_call 108;refine (Cd.desc_any _ _ _ HC _).mono ?_;rintro e w' ⟨rfl,rfl⟩)
          go_ret2
          exact ⟨⟨i,false,by first | rfl | simp,HLE.out,H1.out,H2.out,HB.out⟩,rfl⟩
      · have hinI:¬ (i:Int) < (n:Int):=by omega
        have HLE:Hid (i≤l.length):=by have:=HN.out;rw [Hid];omega
        have HB:Hid (false=decide (v ∈ l)):=(Cd.search_out l v (fun q h _=>H1.out q h (by have:=HN.out;omega))).symm
        go_wp2_with fail
        go_ret2
        exact ⟨⟨i,false,by first | rfl | simp,HLE.out,H1.out,H2.out,HB.out⟩,rfl⟩
end Go.Proofs.YtbkhedpabfanoaaGreatDoor
