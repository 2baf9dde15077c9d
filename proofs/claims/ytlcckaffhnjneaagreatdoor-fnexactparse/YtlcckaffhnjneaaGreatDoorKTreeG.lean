import Derived.Test.YtlcckaffhnjneaaGreatDoorKTreeF
import Derived.Maps.AppendAt
import Derived.Deep.Onto
set_option maxRecDepth 100000
set_option maxHeartbeats 4000000
namespace Go.Proofs.YtlcckaffhnjneaaGreatDoor
open Go.RowKit
theorem Mill.ndCs_at (ts:List Mill.Nd) (i:Nat) (h:i < ts.length) (j:Nat) (hj:j < 6):(Mill.ndCs ts)[i * 6+j]? = (Mill.ndC ts[i])[j]?:=by
 induction ts generalizing i with
 | nil=>simp at h
 | cons t r ih =>
  cases i with
  | zero =>
   simp only [Mill.ndCs,List.flatMap_cons,Nat.zero_mul,Nat.zero_add]
   rw [List.getElem?_append_left (by simp [Mill.ndC];omega)];rfl
  | succ i =>
   simp only [Mill.ndCs,List.flatMap_cons]
   rw [List.getElem?_append_right (by simp [Mill.ndC];omega)]
   have e:(i+1) * 6+j - (Mill.ndC t).length=i * 6+j:=by simp [Mill.ndC];omega
   rw [e]
   exact ih i (by simpa using h)
def Mill.NodesAt (w:World) (v:Value) (ns:List Mill.Nd):Prop :=
 ∃ a cap,v = .slice a ns.length cap∧∀ i (hi:i < ns.length),∃ g,a=some ⟨g,0,none⟩∧g < w.heap.size∧∀ j,j < 6→w.cell? ⟨g,i * 6+j,none⟩=(Mill.ndC ns[i])[j]?
theorem Mill.nodesAt_own {w:World} {B:Nat} {v:Value} {ns:List Mill.Nd} {e:TypeId} (h:w.ownsRow B e 6 v ns.length (Mill.ndCs ns)):Mill.NodesAt w v ns:=by
 rcases h.2 with ⟨rfl,h0⟩ | ⟨g,cap,cur,rfl,hg,hgg,_⟩
 ·exact ⟨none,0,by rw [h0],fun i hi=>by omega⟩
 ·refine ⟨_,_,rfl,fun i hi=>⟨g,rfl,(Array.getElem?_eq_some_iff.1 hgg).1,fun j hj => ?_⟩⟩
  rw [h.cellAt (i * 6+j) (by omega),Mill.ndCs_at ns i hi j hj]
theorem Mill.nodesAt_below {w w':World} {v:Value} {ns:List Mill.Nd} (h:Mill.NodesAt w v ns) (hb:Below w.heap.size w w'):Mill.NodesAt w' v ns:=by
 obtain ⟨a,cap,rfl,hc⟩:=h
 refine ⟨a,cap,rfl,fun i hi => ?_⟩
 obtain ⟨g,ha,hg,hcell⟩:=hc i hi
 refine ⟨g,ha,Nat.lt_of_lt_of_le hg hb.size,fun j hj => ?_⟩
 rw [hb.cell (p:=⟨g,i * 6+j,none⟩) hg];exact hcell j hj
def Mill.kidsOf : List Int→Nat→List Nat→List (List Nat)→Option (List (List Nat) × List Nat)
 | [],_,opn,out=>some (out,opn)
 | k::r,i,opn,out=>if 0≤k∧k≤opn.length then Mill.kidsOf r (i+1) (opn.take (opn.length - k.toNat)++[i]) (out++[opn.drop (opn.length - k.toNat)]) else none
def Mill.nats (ks:List Nat):List Value:=ks.map (fun x:Nat=>Value.int .i64 (x:Int))
def Mill.apart (a b:Value):Prop := ∀ g,a.ownBlock=some g→b.ownBlock≠some g
def Mill.TabIs (w:World) (B:Nat) (v:Value) (tab:List (List Nat)) (vs:List Value):Prop :=
 w.ownsRow B 63 1 v tab.length vs∧∀ i (hi:i < tab.length),∃ u,vs[i]? = some u∧w.ownsRow B 3 1 u tab[i].length (Mill.nats tab[i])
theorem Tryz.infoInt : (Tryz.prog.info? 3).map (fun i=>(i.zero,i.size,i.bytes))=some (some (.int .i64 0),1,8):=by kernel_rfl
theorem Tryz.infoInts : (Tryz.prog.info? 63).map (fun i=>(i.zero,i.size,i.bytes))=some (some (.slice none 0 0),1,24):=by kernel_rfl
theorem Mill.nats_length (l:List Nat):(Mill.nats l).length=l.length:=by simp [Mill.nats]
theorem Mill.nats_app (l m:List Nat):Mill.nats (l++m)=Mill.nats l++Mill.nats m:=by simp [Mill.nats]
theorem Mill.own_take {w:World} {B e g n c:Nat} {xs:List Value} (h:w.ownsRow B e 1 (.slice (some ⟨g,0,none⟩) n c) n xs) (m:Nat) (hm:m≤n):w.ownsRow B e 1 (.slice (some ⟨g,0,none⟩) m c) m (xs.take m):=by
 obtain ⟨h0,h2⟩:=h
 rcases h2 with ⟨h3,_⟩ | ⟨g',cap,cur,hv,hg,hh,hn,hcap,hsz,ht⟩
 ·cases h3
 ·cases hv
  refine ⟨by simp at h0 ⊢;omega,.inr ⟨g,c,cur,rfl,hg,hh,by omega,hcap,hsz, ?_⟩⟩
  rw [← ht,List.take_take];congr 1;omega
theorem Mill.rowForm {w:World} {B e size n:Nat} {v:Value} {xs:List Value} (h:w.ownsRow B e size v n xs) (hn:0 < n):∃ g cap,v = .slice (some ⟨g,0,none⟩) n cap∧B≤g∧g < w.heap.size:=by
 rcases h.2 with ⟨_,h0⟩ | ⟨g,cap,cur,rfl,hg,hgg,_⟩
 ·omega
 ·exact ⟨g,cap,rfl,hg,(Array.getElem?_eq_some_iff.1 hgg).1⟩
theorem Mill.rowLen {w:World} {B e size n:Nat} {v:Value} {xs:List Value} (h:w.ownsRow B e size v n xs):∃ a cap,v = .slice a n cap:=by
 rcases h.2 with ⟨rfl,h0⟩ | ⟨g,cap,cur,rfl,_⟩
 ·exact ⟨none,0,by rw [h0]⟩
 ·exact ⟨_,_,rfl⟩
theorem Mill.kept {W W':World} {B e size n:Nat} {u v:Value} {xs:List Value} (h:W.ownsRow B e size u n xs) (hg:W.grownBy W' v.ownBlock) (ha:Mill.apart u v):W'.ownsRow B e size u n xs:=by
 refine h.kept hg ?_
 cases hu:u.ownBlock with
 | none=>exact .inl rfl
 | some g=>exact .inr (fun h2=>ha g hu h2.symm)
theorem Mill.apart_symm {u v:Value} (h:Mill.apart u v):Mill.apart v u:=fun g hv hu=>h g hu hv
theorem Mill.apart_new {W:World} {B e size n k:Nat} {u v:Value} {xs:List Value} (h:W.ownsRow B e size u n xs) (hv:v.ownBlock=some k) (hk:W.heap.size≤k):Mill.apart u v:=by
 intro g hu h2
 have:=(h.lt g hu).2
 rw [hv] at h2;cases h2;omega
theorem Mill.apart_at {W:World} {B e size n k:Nat} {u v v':Value} {xs:List Value} (h:W.ownsRow B e size u n xs) (ha:Mill.apart u v) (hat:v'.ownBlock=v.ownBlock∨v'.ownBlock=some k) (hk:W.heap.size≤k):Mill.apart u v':=by
 rcases hat with h1 | h1
 ·intro g hu h2;rw [h1] at h2;exact ha g hu h2
 ·exact Mill.apart_new h h1 hk
theorem Mill.nats_one (l:List Nat):∀ u ∈ Mill.nats l,u.oneCell'=true:=by
 intro u hu
 unfold Mill.nats at hu
 obtain ⟨y,_,rfl⟩:=List.mem_map.1 hu
 rfl
theorem Mill.own_one {w:World} {B e size n:Nat} {v:Value} {xs:List Value} (h:w.ownsRow B e size v n xs):∀ u ∈ [v],u.oneCell'=true:=by
 intro u hu
 simp at hu
 subst hu
 rcases h.2 with ⟨rfl,_⟩ | ⟨g,cap,cur,rfl,_⟩ <;> rfl
theorem Mill.int_one (x:Int):∀ u ∈ [Value.int .i64 x],u.oneCell'=true:=by
 intro u hu
 simp at hu
 subst hu
 rfl
def Mill.kidsR (ns:List Mill.Nd):Option (List (List Nat) × List Nat):=if 1≤ns.length∧ns.length≤12001 then Mill.kidsOf (ns.map (·.kids)) 0 [] [] else none
def Mill.KidsPost (w:World) (r:Option (List (List Nat) × List Nat)) (e:Ending) (w':World):Prop :=
 ∃ vo ok,e = .returned (.tuple #[vo,.bool ok])∧Below w.heap.size w w'∧(match r with | none=>ok=false | some (K,opn)=>ok=decide (opn.length=1)∧∃ vs,Mill.TabIs w' w.heap.size vo K vs)
theorem Mill.kids_next {wr w1 w2 w3:World} {B p m cp gp:Nat} {vp vo v1 vo2 vp3 vt:Value} {opn:List Nat} {tab:List (List Nat)} {vs:List Value} {o1 o2 o3:Obj}
  (hop:wr.ownsRow B 3 1 vp (p+m) (Mill.nats opn)) (hot:wr.ownsRow B 3 1 (.slice (some ⟨gp,0,none⟩) p cp) p (Mill.nats (opn.take p))) (hvp:vp.ownBlock=some gp)
  (htab:Mill.TabIs wr B vo tab vs) (hap:Mill.apart vo vp) (hapv:∀ (j:Nat) u,vs[j]? = some u→Mill.apart u vp∧Mill.apart u vo)
  (hvt:vt.ownBlock=some wr.heap.size)
  (own1:w1.ownsRow B 3 1 v1 m (Mill.nats (opn.drop p))) (g1:(wr.alloc o1).grownBy w1 vt.ownBlock) (at1:v1.ownBlock=vt.ownBlock∨v1.ownBlock=some (wr.alloc o1).heap.size)
  (own2:w2.ownsRow B 63 1 vo2 (tab.length+1) (vs++[v1])) (g2:(w1.alloc o2).grownBy w2 vo.ownBlock) (at2:vo2.ownBlock=vo.ownBlock∨vo2.ownBlock=some (w1.alloc o2).heap.size)
  (g3:(w2.alloc o3).grownBy w3 (Value.slice (some ⟨gp,0,none⟩) p cp).ownBlock) (at3:vp3.ownBlock=(Value.slice (some ⟨gp,0,none⟩) p cp).ownBlock∨vp3.ownBlock=some (w2.alloc o3).heap.size)
  (hd:(opn.drop p).length=m) :
  Mill.TabIs w3 B vo2 (tab++[opn.drop p]) (vs++[v1])∧Mill.apart vo2 vp3∧∀ (j:Nat) u,(vs++[v1])[j]? = some u→Mill.apart u vp3∧Mill.apart u vo2:=by
 have hpt:∀ u,Mill.apart u vp→Mill.apart u (.slice (some ⟨gp,0,none⟩) p cp):=fun u h g h1 h2=>h g h1 (by rw [hvp];exact h2)
 have hs1:=g1.size
 have hs2:=g2.size
 have hs3:=g3.size
 rw [World.size_alloc] at hs1 hs2 hs3
 -- the new row is apart from all that lay
 have hv1:∀ {B e size n:Nat} {u:Value} {xs:List Value},wr.ownsRow B e size u n xs→Mill.apart u v1:=by
  intro B e size n u xs h
  rcases at1 with h1 | h1
  ·rw [hvt] at h1;exact Mill.apart_new h h1 (Nat.le_refl _)
  ·exact Mill.apart_new h h1 (by simp)
 have hvt':∀ {B e size n:Nat} {u:Value} {xs:List Value},wr.ownsRow B e size u n xs→Mill.apart u vt:=fun h=>Mill.apart_new h hvt (Nat.le_refl _)
 -- each row of the table
 have hrow:∀ {n:Nat} {u:Value} {xs:List Value},wr.ownsRow B 3 1 u n xs→Mill.apart u vp→Mill.apart u vo→w3.ownsRow B 3 1 u n xs∧Mill.apart u vp3∧Mill.apart u vo2:=by
  intro n u xs h ha hb
  have h1:=Mill.kept (h.alloc o1) g1 (hvt' h)
  have h2:=Mill.kept (h1.alloc o2) g2 hb
  have h3:=Mill.kept (h2.alloc o3) g3 (hpt u ha)
  exact ⟨h3,Mill.apart_at (h2.alloc o3) (hpt u ha) at3 (Nat.le_refl _),Mill.apart_at (h1.alloc o2) hb at2 (Nat.le_refl _)⟩
 have hnew:w3.ownsRow B 3 1 v1 m (Mill.nats (opn.drop p))∧Mill.apart v1 vp3∧Mill.apart v1 vo2:=by
  have a1:Mill.apart v1 vo:=Mill.apart_symm (hv1 htab.1)
  have a2:Mill.apart v1 vp:=Mill.apart_symm (hv1 hop)
  have h2:=Mill.kept (own1.alloc o2) g2 a1
  have h3:=Mill.kept (h2.alloc o3) g3 (hpt v1 a2)
  exact ⟨h3,Mill.apart_at (h2.alloc o3) (hpt v1 a2) at3 (Nat.le_refl _),Mill.apart_at (own1.alloc o2) a1 at2 (Nat.le_refl _)⟩
 have hot1:=Mill.kept (hot.alloc o1) g1 (hvt' hot)
 have ha2:Mill.apart (.slice (some ⟨gp,0,none⟩) p cp) vo2:=Mill.apart_at (hot1.alloc o2) (fun g h1 h2=>hap g h2 (by rw [hvp];exact h1)) at2 (Nat.le_refl _)
 have own2':=Mill.kept (own2.alloc o3) g3 (Mill.apart_symm ha2)
 have hvl:vs.length=tab.length:=by have:=htab.1.1;omega
 refine ⟨⟨by simpa using own2',fun i hi => ?_⟩,Mill.apart_at (own2.alloc o3) (Mill.apart_symm ha2) at3 (Nat.le_refl _),fun j u hj => ?_⟩
 ·by_cases h:i < tab.length
  ·obtain ⟨u,hu,ho⟩:=htab.2 i h
   refine ⟨u,by rw [List.getElem?_append_left (by omega)];exact hu, ?_⟩
   rw [List.getElem_append_left h]
   exact (hrow ho (hapv i u hu).1 (hapv i u hu).2).1
  ·have hi':i=tab.length:=by simp at hi;omega
   subst hi'
   refine ⟨v1,by rw [List.getElem?_append_right (by omega)];simp [hvl], ?_⟩
   rw [List.getElem_append_right (Nat.le_refl _)]
   simp only [Nat.sub_self,List.getElem_cons_zero,hd]
   exact hnew.1
 ·by_cases h:j < vs.length
  ·rw [List.getElem?_append_left h] at hj
   obtain ⟨u',hu',ho⟩:=htab.2 j (by omega)
   rw [hj] at hu';cases hu'
   exact (hrow ho (hapv j u hj).1 (hapv j u hj).2).2
  ·rw [List.getElem?_append_right (by omega)] at hj
   have:j - vs.length=0:=by
    have:=(List.getElem?_eq_some_iff.1 hj).1;simp at this;omega
   rw [this] at hj
   simp at hj
   subst hj
   exact hnew.2
theorem l2Kids_short (ns:List Mill.Nd) (v:Value) (w:World) (hN:Mill.NodesAt w v ns) (h1:1≤ns.length) (h2:ns.length≤12001) :
    Calls Tryz.prog 28 #[.agg #[v]] w fun e w'=>Mill.KidsPost w (Mill.kidsR ns) e w':=by
  obtain ⟨i0,hi0,hz0,hz1,hz2⟩:=info_parts Tryz.infoInt
  obtain ⟨i1,hi1,hy0,hy1,hy2⟩:=info_parts Tryz.infoInts
  obtain ⟨a,cap,rfl,hc⟩:=hN
  have HS:Hid (Mill.kidsR ns=Mill.kidsOf (ns.map (·.kids)) 0 [] []):=by rw [Hid,Mill.kidsR,if_pos ⟨h1,h2⟩]
  obtain ⟨n,HN⟩:∃ n,Hid (ns.length=n):=⟨_,rfl⟩
  rw [HN.out] at h1 h2
  simp only [HN.out]
  have hc':∀ i (hi:i < n),∃ g,a=some ⟨g,0,none⟩∧g < w.heap.size∧∀ j,j < 6→w.cell? ⟨g,i * 6+j,none⟩=(Mill.ndC (ns[i]'(by rw [HN.out];exact hi)))[j]?:=fun i hi=>hc i (by rw [HN.out];exact hi)
  clear hc
  have h1':(1:Int)≤(n:Int):=by omega
  have h2':(n:Int)≤12001:=by omega
  go_enter Tryz.func28,Tryz.ntmps28
  go_wp2
  go_loopw [5,6,7] (fun vo vp t wr => ∃ (i:Nat) (opn:List Nat) (tab:List (List Nat)) (vs:List Value) (gp cp:Nat),i≤n∧t = .int .i64 (i:Int)∧opn.length≤i∧tab.length=i∧vp = .slice (some ⟨gp,0,none⟩) opn.length cp∧wr.ownsRow (w.heap.size+1) 3 1 vp opn.length (Mill.nats opn)∧Mill.TabIs wr (w.heap.size+1) vo tab vs∧Mill.apart vo vp∧(∀ (j:Nat) u,vs[j]? = some u→Mill.apart u vp∧Mill.apart u vo)∧Below (w.heap.size+1) (w.alloc (.cells #[.slice a n cap] 24)) wr∧Mill.kidsOf ((ns.drop i).map (·.kids)) i opn tab=Mill.kidsR ns) (fun _ _ t _=>n - (intOf t).toNat)
  case atStart =>
    have o1:=World.ownsRow_made (base:=w.heap.size+1) (e:=63) (size:=1) (w.alloc (.cells #[.slice a n cap] 24)) #[] 0 (by simp) (by decide) rfl
    have o2:=World.ownsRow_made (base:=w.heap.size+1) (e:=3) (size:=1) ((w.alloc (.cells #[.slice a n cap] 24)).alloc (.cells #[] 63)) #[] 0 (by simp) (by decide) rfl
    refine ⟨0,[],[],[],w.heap.size+2,0,by omega,rfl,by simp,rfl,rfl,by simpa [Mill.nats] using o2,⟨by simpa using o1.alloc _,fun i hi=>by simp at hi⟩, ?_, ?_,((Below.refl _ _).alloc (by simp) _).alloc (by simp) _,by rw [HS.out];rfl⟩
    · intro g h3 h4;simp [Value.ownBlock] at h3 h4;omega
    · intro j u h3;simp at h3
  case round =>
    obtain ⟨i,opn,tab,vs,gp,cp,hi,rfl,hol,htl,rfl,hop,htab,hap,hapv,hbw,hu⟩:=hrel
    clear HS
    by_cases hlt:i < n
    · obtain ⟨g,rfl,hg,hcell⟩:=hc' i hlt
      have hil:i < ns.length:=by rw [HN.out];exact hlt
      rw [List.drop_eq_getElem_cons hil,List.map_cons,Mill.kidsOf] at hu
      have ck:wr.cell? ⟨g,i * 6+5,none⟩=some (.int .i64 ns[i].kids):=by
        rw [hbw.cell (p:=⟨g,i * 6+5,none⟩) (by simp;omega),World.cell?_alloc_past _ _ _ hg,hcell 5 (by omega)];rfl
      have ct:wr.cell? ⟨w.heap.size,0,none⟩=some (.slice (some ⟨g,0,none⟩) n cap):=by
        rw [hbw.cell (p:=⟨w.heap.size,0,none⟩) (by simp)];simp [go_sem]
      clear hc' hcell
      generalize ns[i].kids=k at *
      by_cases hk:0≤k∧k≤opn.length
      · rw [if_pos hk] at hu
        obtain ⟨hk0,hk1⟩:=hk
        obtain ⟨m,rfl⟩:∃ m:Nat,k=(m:Int):=⟨k.toNat,by omega⟩
        obtain ⟨p,hp⟩:∃ p,opn.length=p+m:=⟨opn.length - m,by omega⟩
        have hp1:opn.length - (m:Int).toNat=p:=by omega
        rw [hp1] at hu
        have HU:Hid (Mill.kidsOf ((ns.drop (i+1)).map (·.kids)) (i+1) (opn.take p++[i]) (tab++[opn.drop p])=Mill.kidsR ns):=hu
        have hdl:(Mill.nats (opn.drop p)).length=m * 1:=by rw [Mill.nats_length,List.length_drop];omega
        have htk:(opn.take p).length=p:=by rw [List.length_take];omega
        have hot:wr.ownsRow (w.heap.size+1) 3 1 (.slice (some ⟨gp,0,none⟩) p cp) p (Mill.nats (opn.take p)):=by
          have:=Mill.own_take hop p (by omega)
          rwa [show (Mill.nats opn).take p=Mill.nats (opn.take p) by simp [Mill.nats,List.map_take]] at this
        have hdc:∀ j u,(Mill.nats (opn.drop p))[j]? = some u→(wr.alloc (.cells #[] 3)).cell? ((⟨gp,p,none⟩:Addr).add j)=some u:=by
          intro j u hj
          have hadd:(⟨gp,p,none⟩:Addr).add j=⟨gp,p+j,none⟩:=by unfold Addr.add;split <;> simp_all
          have hj2:j < m:=by
            have:=(List.getElem?_eq_some_iff.1 hj).1;omega
          have hgp:=(hop.lt gp rfl).2
          rw [hadd,World.cell?_alloc_past _ _ _ hgp,hop.cellAt (p+j) (by omega)]
          simp only [Mill.nats,List.map_drop,List.getElem?_drop] at hj ⊢
          exact hj
        have HD:Hid ((opn.drop p).length=m):=by rw [Hid,List.length_drop];omega
        have hpi:p≤i:=by omega
        have hmi:m≤i:=by omega
        have hin:i≤12001:=by omega
        have hcpm:∀ c,wr.ownsRow (w.heap.size+1) 3 1 (.slice (some ⟨gp,0,none⟩) (p+m) c) (p+m) (Mill.nats opn)→p+m≤c:=by
          intro c hx
          rcases hx.2 with ⟨h3,_⟩ | ⟨g',cap',cur,hv,_,_,hn2,_⟩
          · cases h3
          · cases hv;exact hn2
        rw [hp] at hop
        have hcp:=hcpm cp hop
        clear hcpm hu hk0 hk1 hp1 hol
        simp only [hp]
        have hz:w.heap.size+1≤wr.heap.size:=by have:=hbw.size;simpa using this
        have hs1:p+m - p=m:=by omega
        have o0:(wr.alloc (.cells #[] 3)).ownsRow (w.heap.size+1) 3 1 (.slice (some ⟨wr.heap.size,0,none⟩) 0 0) 0 []:=by simpa using World.ownsRow_made (base:=w.heap.size+1) (e:=3) (size:=1) wr #[] 0 hz (by decide) rfl
        by_cases hm:m=0
        · subst hm
          by_cases hcq:p=cp
          · subst hcq
            go_wp2_with (first
              | (at_builtin;(refine wpList_append_own_at _ rfl _ _ 63 rfl (w.heap.size+1) 3 i0 (.int .i64 0) 1 8 Tryz.underlying63 hi0 hz0 hz1 hz2 rfl (by decide) _ 0 [] rfl o0 ⟨gp,0,none⟩ 0 0 (Mill.nats (opn.drop p)) rfl hdl (fun j u hj=>by exfalso;have:=(List.getElem?_eq_some_iff.1 hj).1;omega) (Mill.nats_one _) (by unfold maxLen;omega) (by omega) (by simp;omega) ?_;intro v1 w1 own1 g1 _ at1;rw [Nat.zero_add,List.nil_append] at own1;obtain ⟨a1,c1,hv1⟩:=Mill.rowLen own1;subst hv1;have hs1:=g1.size;rw [World.size_alloc] at hs1;have tb1:w1.ownsRow (w.heap.size+1) 63 1 u5 tab.length vs:=Mill.kept (htab.1.alloc _) g1 (Mill.apart_new htab.1 rfl (Nat.le_refl _))))
              | (at_builtin;(refine wpList_append_own_at _ rfl _ _ 60 rfl (w.heap.size+1) 63 i1 (.slice none 0 0) 1 24 Tryz.underlying60 hi1 hy0 hy1 hy2 rfl (by decide) _ tab.length vs rfl (tb1.alloc _) ⟨w1.heap.size,0,none⟩ 1 1 [.slice a1 0 c1] rfl rfl (cell_one_new _ _ _) (Mill.own_one own1) (by unfold maxLen;omega) (by omega) (by simp;omega) ?_;intro vo2 w2 own2 g2 _ at2)
                 have hs2:=g2.size
                 rw [World.size_alloc] at hs2
                 have ot1:w1.ownsRow (w.heap.size+1) 3 1 (.slice (some ⟨gp,0,none⟩) p p) p (Mill.nats (opn.take p)):=Mill.kept (hot.alloc _) g1 (Mill.apart_new hot rfl (Nat.le_refl _))
                 have ot2:w2.ownsRow (w.heap.size+1) 3 1 (.slice (some ⟨gp,0,none⟩) p p) p (Mill.nats (opn.take p)):=Mill.kept (ot1.alloc _) g2 (fun g h3 h4=>hap g h4 h3))
              | (at_builtin;(refine wpList_append_own_at _ rfl _ _ 63 rfl (w.heap.size+1) 3 i0 (.int .i64 0) 1 8 Tryz.underlying63 hi0 hz0 hz1 hz2 rfl (by decide) _ p (Mill.nats (opn.take p)) rfl (ot2.alloc _) ⟨w2.heap.size,0,none⟩ 1 1 [.int .i64 (i:Int)] rfl rfl (cell_one_new _ _ _) (Mill.int_one _) (by unfold maxLen;omega) (by omega) (by simp;omega) ?_;intro vp3 w3 own3 g3 _ at3)))
            have hb1:Below (w.heap.size+1) (w.alloc (.cells #[.slice (some ⟨g,0,none⟩) n cap] 24)) w1:=Below.grown (hbw.alloc hz _) g1 (by simp;omega) (fun j hj=>by cases hj;exact hz)
            have hb2:Below (w.heap.size+1) (w.alloc (.cells #[.slice (some ⟨g,0,none⟩) n cap] 24)) w2:=Below.grown (hb1.alloc (by omega) _) g2 (by simp;omega) (fun j hj=>(htab.1.lt _ hj).1)
            have hb3:Below (w.heap.size+1) (w.alloc (.cells #[.slice (some ⟨g,0,none⟩) n cap] 24)) w3:=Below.grown (hb2.alloc (by omega) _) g3 (by simp;omega) (fun j hj=>(hot.lt _ hj).1)
            have hnew:=Mill.kids_next (vp:=.slice (some ⟨gp,0,none⟩) (p+0) p) (vt:=.slice (some ⟨wr.heap.size,0,none⟩) 0 0) hop hot rfl htab hap hapv rfl own1 g1 at1 own2 g2 at2 g3 at3 HD.out
            clear own1 g1 at1 own2 g2 at2 g3 at3 tb1 ot1 ot2
            obtain ⟨gq,cq,hq,_⟩:=Mill.rowForm own3 (by omega)
            go_roundw
            case rel=>exact ⟨i+1,opn.take p++[i],tab++[opn.drop p],vs++[.slice a1 0 c1],gq,cq,by omega,by go_num,by simp [htk];omega,by simp [htl],by simpa [htk] using hq,by rw [Mill.nats_app,show Mill.nats [i]=[Value.int .i64 (i:Int)] from rfl];simpa [htk] using own3,hnew.1,hnew.2.1,hnew.2.2,hb3,HU.out⟩
            case measure=>simp [intOf];omega
          · have hcq1:¬ cp=p:=by omega
            have hcq2:¬ cp - p=0:=by omega
            go_wp2_with (first
              | (at_builtin;(refine wpList_append_own_at _ rfl _ _ 63 rfl (w.heap.size+1) 3 i0 (.int .i64 0) 1 8 Tryz.underlying63 hi0 hz0 hz1 hz2 rfl (by decide) _ 0 [] rfl o0 ⟨gp,p,none⟩ 0 (cp - p) (Mill.nats (opn.drop p)) rfl hdl hdc (Mill.nats_one _) (by unfold maxLen;omega) (by omega) (by simp;omega) ?_;intro v1 w1 own1 g1 _ at1;rw [Nat.zero_add,List.nil_append] at own1;obtain ⟨a1,c1,hv1⟩:=Mill.rowLen own1;subst hv1;have hs1:=g1.size;rw [World.size_alloc] at hs1;have tb1:w1.ownsRow (w.heap.size+1) 63 1 u5 tab.length vs:=Mill.kept (htab.1.alloc _) g1 (Mill.apart_new htab.1 rfl (Nat.le_refl _))))
              | (at_builtin;(refine wpList_append_own_at _ rfl _ _ 60 rfl (w.heap.size+1) 63 i1 (.slice none 0 0) 1 24 Tryz.underlying60 hi1 hy0 hy1 hy2 rfl (by decide) _ tab.length vs rfl (tb1.alloc _) ⟨w1.heap.size,0,none⟩ 1 1 [.slice a1 0 c1] rfl rfl (cell_one_new _ _ _) (Mill.own_one own1) (by unfold maxLen;omega) (by omega) (by simp;omega) ?_;intro vo2 w2 own2 g2 _ at2)
                 have hs2:=g2.size
                 rw [World.size_alloc] at hs2
                 have ot1:w1.ownsRow (w.heap.size+1) 3 1 (.slice (some ⟨gp,0,none⟩) p cp) p (Mill.nats (opn.take p)):=Mill.kept (hot.alloc _) g1 (Mill.apart_new hot rfl (Nat.le_refl _))
                 have ot2:w2.ownsRow (w.heap.size+1) 3 1 (.slice (some ⟨gp,0,none⟩) p cp) p (Mill.nats (opn.take p)):=Mill.kept (ot1.alloc _) g2 (fun g h3 h4=>hap g h4 h3))
              | (at_builtin;(refine wpList_append_own_at _ rfl _ _ 63 rfl (w.heap.size+1) 3 i0 (.int .i64 0) 1 8 Tryz.underlying63 hi0 hz0 hz1 hz2 rfl (by decide) _ p (Mill.nats (opn.take p)) rfl (ot2.alloc _) ⟨w2.heap.size,0,none⟩ 1 1 [.int .i64 (i:Int)] rfl rfl (cell_one_new _ _ _) (Mill.int_one _) (by unfold maxLen;omega) (by omega) (by simp;omega) ?_;intro vp3 w3 own3 g3 _ at3)))
            have hb1:Below (w.heap.size+1) (w.alloc (.cells #[.slice (some ⟨g,0,none⟩) n cap] 24)) w1:=Below.grown (hbw.alloc hz _) g1 (by simp;omega) (fun j hj=>by cases hj;exact hz)
            have hb2:Below (w.heap.size+1) (w.alloc (.cells #[.slice (some ⟨g,0,none⟩) n cap] 24)) w2:=Below.grown (hb1.alloc (by omega) _) g2 (by simp;omega) (fun j hj=>(htab.1.lt _ hj).1)
            have hb3:Below (w.heap.size+1) (w.alloc (.cells #[.slice (some ⟨g,0,none⟩) n cap] 24)) w3:=Below.grown (hb2.alloc (by omega) _) g3 (by simp;omega) (fun j hj=>(hot.lt _ hj).1)
            have hnew:=Mill.kids_next (vp:=.slice (some ⟨gp,0,none⟩) (p+0) cp) (vt:=.slice (some ⟨wr.heap.size,0,none⟩) 0 0) hop hot rfl htab hap hapv rfl own1 g1 at1 own2 g2 at2 g3 at3 HD.out
            clear own1 g1 at1 own2 g2 at2 g3 at3 tb1 ot1 ot2
            obtain ⟨gq,cq,hq,_⟩:=Mill.rowForm own3 (by omega)
            go_roundw
            case rel=>exact ⟨i+1,opn.take p++[i],tab++[opn.drop p],vs++[.slice a1 0 c1],gq,cq,by omega,by go_num,by simp [htk];omega,by simp [htl],by simpa [htk] using hq,by rw [Mill.nats_app,show Mill.nats [i]=[Value.int .i64 (i:Int)] from rfl];simpa [htk] using own3,hnew.1,hnew.2.1,hnew.2.2,hb3,HU.out⟩
            case measure=>simp [intOf];omega
        · have hcq:¬ cp=p:=by omega
          have hcq2:¬ cp - p=0:=by omega
          have hpl:p < p+m:=by omega
          go_wp2_with (first
            | (at_builtin;(refine wpList_append_own_at _ rfl _ _ 63 rfl (w.heap.size+1) 3 i0 (.int .i64 0) 1 8 Tryz.underlying63 hi0 hz0 hz1 hz2 rfl (by decide) _ 0 [] rfl o0 ⟨gp,p,none⟩ m (cp - p) (Mill.nats (opn.drop p)) rfl hdl hdc (Mill.nats_one _) (by unfold maxLen;omega) (by omega) (by simp;omega) ?_;intro v1 w1 own1 g1 _ at1;rw [Nat.zero_add,List.nil_append] at own1;obtain ⟨a1,c1,hv1⟩:=Mill.rowLen own1;subst hv1;have hs1:=g1.size;rw [World.size_alloc] at hs1;have tb1:w1.ownsRow (w.heap.size+1) 63 1 u5 tab.length vs:=Mill.kept (htab.1.alloc _) g1 (Mill.apart_new htab.1 rfl (Nat.le_refl _))))
            | (at_builtin;(refine wpList_append_own_at _ rfl _ _ 60 rfl (w.heap.size+1) 63 i1 (.slice none 0 0) 1 24 Tryz.underlying60 hi1 hy0 hy1 hy2 rfl (by decide) _ tab.length vs rfl (tb1.alloc _) ⟨w1.heap.size,0,none⟩ 1 1 [.slice a1 m c1] rfl rfl (cell_one_new _ _ _) (Mill.own_one own1) (by unfold maxLen;omega) (by omega) (by simp;omega) ?_;intro vo2 w2 own2 g2 _ at2)
               have hs2:=g2.size
               rw [World.size_alloc] at hs2
               have ot1:w1.ownsRow (w.heap.size+1) 3 1 (.slice (some ⟨gp,0,none⟩) p cp) p (Mill.nats (opn.take p)):=Mill.kept (hot.alloc _) g1 (Mill.apart_new hot rfl (Nat.le_refl _))
               have ot2:w2.ownsRow (w.heap.size+1) 3 1 (.slice (some ⟨gp,0,none⟩) p cp) p (Mill.nats (opn.take p)):=Mill.kept (ot1.alloc _) g2 (fun g h3 h4=>hap g h4 h3))
            | (at_builtin;(refine wpList_append_own_at _ rfl _ _ 63 rfl (w.heap.size+1) 3 i0 (.int .i64 0) 1 8 Tryz.underlying63 hi0 hz0 hz1 hz2 rfl (by decide) _ p (Mill.nats (opn.take p)) rfl (ot2.alloc _) ⟨w2.heap.size,0,none⟩ 1 1 [.int .i64 (i:Int)] rfl rfl (cell_one_new _ _ _) (Mill.int_one _) (by unfold maxLen;omega) (by omega) (by simp;omega) ?_;intro vp3 w3 own3 g3 _ at3)))
          have hb1:Below (w.heap.size+1) (w.alloc (.cells #[.slice (some ⟨g,0,none⟩) n cap] 24)) w1:=Below.grown (hbw.alloc hz _) g1 (by simp;omega) (fun j hj=>by cases hj;exact hz)
          have hb2:Below (w.heap.size+1) (w.alloc (.cells #[.slice (some ⟨g,0,none⟩) n cap] 24)) w2:=Below.grown (hb1.alloc (by omega) _) g2 (by simp;omega) (fun j hj=>(htab.1.lt _ hj).1)
          have hb3:Below (w.heap.size+1) (w.alloc (.cells #[.slice (some ⟨g,0,none⟩) n cap] 24)) w3:=Below.grown (hb2.alloc (by omega) _) g3 (by simp;omega) (fun j hj=>(hot.lt _ hj).1)
          have hnew:=Mill.kids_next (vp:=.slice (some ⟨gp,0,none⟩) (p+m) cp) (vt:=.slice (some ⟨wr.heap.size,0,none⟩) 0 0) hop hot rfl htab hap hapv rfl own1 g1 at1 own2 g2 at2 g3 at3 HD.out
          clear own1 g1 at1 own2 g2 at2 g3 at3 tb1 ot1 ot2
          obtain ⟨gq,cq,hq,_⟩:=Mill.rowForm own3 (by omega)
          go_roundw
          case rel=>exact ⟨i+1,opn.take p++[i],tab++[opn.drop p],vs++[.slice a1 m c1],gq,cq,by omega,by go_num,by simp [htk];omega,by simp [htl],by simpa [htk] using hq,by rw [Mill.nats_app,show Mill.nats [i]=[Value.int .i64 (i:Int)] from rfl];simpa [htk] using own3,hnew.1,hnew.2.1,hnew.2.2,hb3,HU.out⟩
          case measure=>simp [intOf];omega
      · have HR:Hid (Mill.kidsR ns=none):=by rw [if_neg hk] at hu;exact hu.symm
        clear hu
        have hz:w.heap.size+1≤wr.heap.size:=by have:=hbw.size;simpa using this
        have hbf:Below w.heap.size w wr:=((Below.refl _ w).alloc (Nat.le_refl _) _).trans (hbw.mono (by omega))
        by_cases hk0:k < 0
        · clear hk
          go_wp2
          go_ret2
          rw [HR.out]
          exact ⟨_,_,rfl,hbf.alloc (by omega) _,rfl⟩
        · have hk1:(opn.length:Int) < k:=by omega
          clear hk
          go_wp2
          go_ret2
          rw [HR.out]
          exact ⟨_,_,rfl,hbf.alloc (by omega) _,rfl⟩
    · have HR:Hid (Mill.kidsR ns=some (tab,opn)):=by
        rw [List.drop_of_length_le (by rw [HN.out];omega)] at hu;exact hu.symm
      have hbf:Below w.heap.size w wr:=((Below.refl _ w).alloc (Nat.le_refl _) _).trans (hbw.mono (by omega))
      clear hu hc'
      go_wp2
      go_ret2
      rw [HR.out]
      refine ⟨_,_,rfl,hbf, ?_,vs, ?_⟩
      · go_light;rw [Bool.eq_iff_iff];simp;omega
      · exact ⟨htab.1.mono (by omega),fun i hi=>by obtain ⟨u,hu,ho⟩:=htab.2 i hi;exact ⟨u,hu,ho.mono (by omega)⟩⟩
theorem l2Kids_any (ns:List Mill.Nd) (v:Value) (w:World) (hN:Mill.NodesAt w v ns) :
  Calls Tryz.prog 28 #[.agg #[v]] w fun e w'=>Mill.KidsPost w (Mill.kidsR ns) e w':=by
 by_cases h:1≤ns.length∧ns.length≤12001
 ·exact l2Kids_short ns v w hN h.1 h.2
 ·have HR:Hid (Mill.kidsR ns=none):=by rw [Hid,Mill.kidsR,if_neg h]
  obtain ⟨a,cap,rfl,hc⟩:=hN
  clear hc
  generalize ns.length=n at *
  by_cases h1:n < 1
  ·have h1':(n:Int) < 1:=by omega
   clear h
   go_enter Tryz.func28,Tryz.ntmps28
   go_wp2
   go_ret2
   rw [HR.out]
   exact ⟨_,_,rfl,((Below.refl _ w).alloc (Nat.le_refl _) _).alloc (by simp) _,rfl⟩
  ·have h2':(12001:Int) < (n:Int):=by omega
   have h1':¬ (n:Int) < 1:=by omega
   clear h h1
   go_enter Tryz.func28,Tryz.ntmps28
   go_wp2
   go_ret2
   rw [HR.out]
   exact ⟨_,_,rfl,((Below.refl _ w).alloc (Nat.le_refl _) _).alloc (by simp) _,rfl⟩
theorem Mill.kidsOf_ok : ∀ (cs:List Int) (i:Nat) (opn:List Nat) (out K:List (List Nat)) (o:List Nat),Mill.kidsOf cs i opn out=some (K,o)→(∀ x ∈ opn,x < i)→opn.length≤i→out.length=i→(∀ j (h:j < out.length),(∀ x ∈ out[j],x < j)∧out[j].length≤j) →
  K.length=i+cs.length∧(∀ j (h:j < K.length),(∀ x ∈ K[j],x < j)∧K[j].length≤j)∧∀ x ∈ o,x < i+cs.length
 | [],i,opn,out,K,o,h,h1,_,h2,h3=>by
  simp only [Mill.kidsOf,Option.some.injEq,Prod.mk.injEq] at h
  obtain ⟨rfl,rfl⟩:=h
  exact ⟨by simpa using h2,h3,by simpa using h1⟩
 | c::r,i,opn,out,K,o,h,h1,h0,h2,h3=>by
  rw [Mill.kidsOf] at h
  split at h
  ·have:=Mill.kidsOf_ok r (i+1) _ _ K o h (by
    intro x hx
    rcases List.mem_append.1 hx with hx | hx
    ·have:=h1 x (List.mem_of_mem_take hx);omega
    ·simp at hx;omega) (by simp;omega) (by simp [h2]) (by
    intro j hj
    by_cases hj2:j < out.length
    ·rw [List.getElem_append_left hj2];exact h3 j hj2
    ·have hj3:j=out.length:=by simp at hj;omega
     subst hj3
     rw [List.getElem_append_right (Nat.le_refl _)]
     simp only [Nat.sub_self,List.getElem_cons_zero]
     refine ⟨fun x hx => ?_,by rw [List.length_drop];omega⟩
     have:=h1 x (List.mem_of_mem_drop hx)
     omega)
   simp only [List.length_cons]
   refine ⟨by omega,this.2.1,fun x hx=>by have:=this.2.2 x hx;omega⟩
  ·cases h
theorem Mill.kidsR_ok {ns:List Mill.Nd} {K:List (List Nat)} {o:List Nat} (h:Mill.kidsR ns=some (K,o)):1≤ns.length∧ns.length≤12001∧K.length=ns.length∧(∀ j (h:j < K.length),(∀ x ∈ K[j],x < j)∧K[j].length≤j)∧∀ x ∈ o,x < ns.length:=by
 unfold Mill.kidsR at h
 split at h
 ·rename_i hl
  have:=Mill.kidsOf_ok _ 0 [] [] K o h (by simp) (by simp) rfl (by intro j hj;simp at hj)
  simp only [List.length_map,Nat.zero_add] at this
  exact ⟨hl.1,hl.2,this⟩
 ·cases h
def Mill.kindAt (ns:List Mill.Nd) (k:Nat):Int:=(ns[k]?.map (·.kind)).getD 0
def Mill.kindsOf (ns:List Mill.Nd) (ks:List Nat):List Int:=ks.map (Mill.kindAt ns)
def Mill.highOf (hs ks:List Nat):Nat:=ks.foldl (fun h k=>max h (hs.getD k 0+1)) 0
def Mill.nodeOk (ns:List Mill.Nd) (i h:Nat) (ks:List Nat):Bool:=match ns[i]? with
 | none=>false
 | some d=>decide (h≤60) && Mill.fields d && Mill.fits d.kind d.op (Mill.kindsOf ns ks)
def Mill.validL (ns:List Mill.Nd):List (List Nat)→Nat→List Nat→Bool
 | [],_,_=>true
 | ks::r,i,hs=>Mill.nodeOk ns i (Mill.highOf hs ks) ks && Mill.validL ns r (i+1) (hs++[Mill.highOf hs ks])
def Mill.valid (ns:List Mill.Nd):Bool:=match Mill.kidsR ns with
 | none=>false
 | some (K,o)=>decide (o.length=1) && Mill.validL ns K 0 [] && (Mill.kindAt ns (ns.length - 1) == 24)
theorem Mill.highOf_snoc (hs ks:List Nat) (k:Nat):Mill.highOf hs (ks++[k])=max (Mill.highOf hs ks) (hs.getD k 0+1):=by simp [Mill.highOf]
theorem Mill.highOf_bd (hs:List Nat) (hb:∀ x ∈ hs,x≤60) (ks:List Nat):Mill.highOf hs ks≤61:=by
 unfold Mill.highOf
 have:∀ (ks:List Nat) (a:Nat),a≤61→ks.foldl (fun h k=>max h (hs.getD k 0+1)) a≤61:=by
  intro ks
  induction ks with
  | nil=>intro a ha;simpa using ha
  | cons k r ih =>
   intro a ha
   simp only [List.foldl_cons]
   refine ih _ ?_
   have:hs.getD k 0≤60:=by
    rw [List.getD_eq_getElem?_getD]
    cases hk:hs[k]? with
    | none=>simp
    | some x=>simp;exact hb x (List.mem_of_getElem? hk)
   omega
 exact this ks 0 (by omega)
theorem Mill.tree_own {W W':World} {B e size n:Nat} {v:Value} {xs:List Value} (h:W.ownsRow B e size v n xs) (hb:Below W.heap.size W W'):W'.ownsRow B e size v n xs:=by
 refine ⟨h.1, ?_⟩
 rcases h.2 with hn | ⟨g,cap,cur,hv,hg,hgg,rest⟩
 ·exact .inl hn
 ·exact .inr ⟨g,cap,cur,hv,hg,by rw [hb.block g (Array.getElem?_eq_some_iff.1 hgg).1];exact hgg,rest⟩
theorem Mill.nat_at {w:World} {B n:Nat} {v:Value} {ks:List Nat} {e:TypeId} (h:w.ownsRow B e 1 v n (Mill.nats ks)) (hn:ks.length=n) :
  ∃ a cap,v = .slice a n cap∧∀ i (hi:i < n),∃ g,a=some ⟨g,0,none⟩∧B≤g∧g < w.heap.size∧w.cell? ⟨g,i,none⟩=some (.int .i64 ((ks[i]'(hn ▸ hi):Nat):Int)):=by
 rcases h.2 with ⟨rfl,h0⟩ | ⟨g,cap,cur,rfl,hg,hgg,_⟩
 ·exact ⟨none,0,by rw [h0],fun i hi=>by omega⟩
 ·refine ⟨_,_,rfl,fun i hi=>⟨g,rfl,hg,(Array.getElem?_eq_some_iff.1 hgg).1, ?_⟩⟩
  rw [h.cellAt i (by omega)]
  simp [Mill.nats,hn,hi]
theorem Mill.kindAt_eq (ns:List Mill.Nd) (k:Nat) (h:k < ns.length):Mill.kindAt ns k=ns[k].kind:=by simp [Mill.kindAt,h]
theorem Mill.getD_eq (hs:List Nat) (k:Nat) (h:k < hs.length):hs.getD k 0=hs[k]:=by simp [h]
theorem Mill.ints_app (l m:List Int):Mill.ints (l++m)=Mill.ints l++Mill.ints m:=by simp [Mill.ints]
theorem Mill.validL_no (ns:List Mill.Nd) (K:List (List Nat)) (i:Nat) (hs:List Nat) (hi:i < K.length) (h:Mill.nodeOk ns i (Mill.highOf hs K[i]) K[i]=false):Mill.validL ns (K.drop i) i hs=false:=by
 rw [List.drop_eq_getElem_cons hi,Mill.validL,h];rfl
theorem Mill.validL_yes (ns:List Mill.Nd) (K:List (List Nat)) (i:Nat) (hs:List Nat) (hi:i < K.length) (h:Mill.nodeOk ns i (Mill.highOf hs K[i]) K[i]=true):Mill.validL ns (K.drop i) i hs=Mill.validL ns (K.drop (i+1)) (i+1) (hs++[Mill.highOf hs K[i]]):=by
 rw [List.drop_eq_getElem_cons hi,Mill.validL,h];rfl
theorem l2Fields_is (d:Mill.Nd) (b:Bool) (h:Hid (Mill.fields d=b)) (w:World) :
  Calls Tryz.prog 29 #[Mill.ndV d] w fun e w'=>e = .returned (.bool b)∧Below w.heap.size w w':=by
 rw [← h.out];exact l2Fields_any d w
theorem l2Fits_is (d:Mill.Nd) (ks:List Int) (b:Bool) (hb:Hid (Mill.fits d.kind d.op ks=b)) (v:Value) (B n:Nat) (HN:Hid (ks.length=n)) (w:World) (h:w.ownsRow B 3 1 v n (Mill.ints ks)) (hl:n≤1000000) :
  Calls Tryz.prog 30 #[Mill.ndV d,v] w fun e w'=>e = .returned (.bool b)∧Below w.heap.size w w':=by
 rw [← hb.out];exact l2Fits_any d ks v B n HN w h hl
theorem specValidTree_any (ns:List Mill.Nd) (v:Value) (w:World) (hN:Mill.NodesAt w v ns) :
  Calls Tryz.prog 12 #[.agg #[v]] w fun e w'=>e = .returned (.bool (Mill.valid ns))∧Below w.heap.size w w':=by
 obtain ⟨i0,hi0,hz0,hz1',hz2⟩:=info_parts Tryz.infoInt
 cases hR:Mill.kidsR ns with
 | none =>
  have HV:Hid (Mill.valid ns=false):=by rw [Hid,Mill.valid,hR]
  go_enter Tryz.func12,Tryz.ntmps12
  go_wp2_with (go_at_call 28;refine (l2Kids_any ns v _ (Mill.nodesAt_below hN ((Below.refl _ w).alloc (Nat.le_refl _) _))).mono ?_;rintro e w1 ⟨vo,ok,rfl,hb,hk⟩;rw [hR] at hk;simp only at hk;subst hk;rw [World.size_alloc] at hb)
  go_ret
  exact ⟨Mill.ret_bool HV.out.symm,((Below.refl _ w).alloc (Nat.le_refl _) _).trans (hb.mono (by omega))⟩
 | some r =>
  obtain ⟨K,o⟩:=r
  by_cases ho:o.length=1
  ·go_enter Tryz.func12,Tryz.ntmps12
   go_wp2_with (go_at_call 28;refine (l2Kids_any ns v _ (Mill.nodesAt_below hN ((Below.refl _ w).alloc (Nat.le_refl _) _))).mono ?_;rintro e w1 ⟨vo,ok,rfl,hb,hk⟩;rw [hR] at hk;simp only [ho,decide_true] at hk;obtain ⟨rfl,vs,htab⟩:=hk;rw [World.size_alloc] at hb htab)
   obtain ⟨hl1,hl2,hK,hKlt,_⟩:=Mill.kidsR_ok hR
   have HV:Hid (Mill.valid ns=(Mill.validL ns K 0 [] && (Mill.kindAt ns (ns.length - 1) == 24))):=by rw [Hid,Mill.valid,hR];simp [ho]
   have hN1:Mill.NodesAt w1 v ns:=Mill.nodesAt_below hN (((Below.refl _ w).alloc (Nat.le_refl _) _).trans (hb.mono (by omega)))
   have ct1:w1.cell? ⟨w.heap.size,0,none⟩=some v:=by rw [hb.cell (p:=⟨w.heap.size,0,none⟩) (by simp)];simp [go_sem]
   have hz1:w.heap.size < w1.heap.size:=by have:=hb.size;simp at this;omega
   have hb0:Below w.heap.size w w1:=((Below.refl _ w).alloc (Nat.le_refl _) _).trans (hb.mono (by omega))
   clear hN hR ho hb
   obtain ⟨av,cv,hv,hnc⟩:=hN1
   obtain ⟨gv,hav,hgv,_⟩:=hnc 0 (by omega)
   subst hav
   have hnc':∀ i (hi:i < ns.length) j,j < 6→w1.cell? ⟨gv,i * 6+j,none⟩=(Mill.ndC ns[i])[j]?:=fun i hi j hj=>by
    obtain ⟨g,hg,_,hcl⟩:=hnc i hi
    cases hg;exact hcl j hj
   clear hnc
   obtain ⟨n,HN⟩:∃ n,Hid (ns.length=n):=⟨_,rfl⟩
   have HK:Hid (K.length=n):=by rw [Hid,hK];exact HN.out
   rw [HN.out] at hl1 hl2 hv
   subst hv
   have htab1:w1.ownsRow (w.heap.size+1) 63 1 vo n vs:=by have:=htab.1;rwa [HK.out] at this
   obtain ⟨go,co,rfl,_,hgo⟩:=Mill.rowForm htab1 (by omega)
   have hvs:∀ i (hi:i < n),∃ u,w1.cell? ⟨go,i,none⟩=some u∧w1.ownsRow (w.heap.size+1) 3 1 u (K[i]'(by rw [HK.out];exact hi)).length (Mill.nats (K[i]'(by rw [HK.out];exact hi))):=fun i hi=>by
    obtain ⟨u,hu,ho⟩:=htab.2 i (by rw [HK.out];exact hi)
    exact ⟨u,by rw [htab1.cellAt i (by omega)];exact hu,ho⟩
   clear htab htab1
   go_loopw [5,6] (fun vh t wr => ∃ (i:Nat) (hs:List Nat),i≤n∧t = .int .i64 (i:Int)∧hs.length=i∧(∀ x ∈ hs,x≤60)∧wr.ownsRow w1.heap.size 3 1 vh i (Mill.nats hs)∧Below w1.heap.size w1 wr∧Mill.validL ns (K.drop i) i hs=Mill.validL ns K 0 []) (fun _ t _=>n - (intOf t).toNat)
   case atStart =>
    refine ⟨0,[],by omega,rfl,rfl,by simp, ?_,(Below.refl _ w1).alloc (Nat.le_refl _) _,rfl⟩
    simpa [Mill.nats] using World.ownsRow_made (base:=w1.heap.size) (e:=3) (size:=1) w1 #[] 0 (Nat.le_refl _) (by decide) rfl
   case round =>
    obtain ⟨i,hs,hi,rfl,hhl,hh60,hown,hbw,hu⟩:=hrel
    obtain ⟨wo,hwo⟩:∃ x,x=wr:=⟨_,rfl⟩
    subst hwo
    by_cases hlt:i < n
    ·obtain ⟨u,cu1,ou1⟩:=hvs i hlt
     have hiK:i < K.length:=by rw [HK.out];exact hlt
     have hin:i < ns.length:=by rw [HN.out];exact hlt
     obtain ⟨hlti,hqi⟩:=hKlt i hiK
     clear hvs hKlt
     obtain ⟨ks,HKS⟩:∃ ks,Hid (K[i]=ks):=⟨_,(rfl:K[i]=_)⟩
     rw [HKS.out] at ou1 hlti hqi
     obtain ⟨q,HQ⟩:∃ q,Hid (ks.length=q):=⟨_,rfl⟩
     rw [HQ.out] at ou1 hqi
     have cu:wo.cell? ⟨go,i,none⟩=some u:=by rw [hbw.cell (p:=⟨go,i,none⟩) hgo];exact cu1
     have ou:=Mill.tree_own ou1 hbw
     have ct:wo.cell? ⟨w.heap.size,0,none⟩=some (.slice (some ⟨gv,0,none⟩) n cv):=by rw [hbw.cell (p:=⟨w.heap.size,0,none⟩) hz1];exact ct1
     have hzr:w1.heap.size≤wo.heap.size:=hbw.size
     obtain ⟨au,cu2,rfl,hxc⟩:=Mill.nat_at ou HQ.out
     obtain ⟨ah,ch,hvh,hhc⟩:=Mill.nat_at hown hhl
     subst hvh
     go_wp2
     go_loopw [7,8,9] (fun vk th tk wq => ∃ j:Nat,j≤q∧tk = .int .i64 (j:Int)∧th = .int .i64 (Mill.highOf hs (ks.take j):Int)∧wq.ownsRow wo.heap.size 3 1 vk j (Mill.ints (Mill.kindsOf ns (ks.take j)))∧Below wo.heap.size wo wq) (fun _ _ tk _=>q - (intOf tk).toNat)
     case atStart =>
      refine ⟨0,by omega,rfl,rfl, ?_,(Below.refl _ wo).alloc (Nat.le_refl _) _⟩
      simpa [Mill.ints,Mill.kindsOf] using World.ownsRow_made (base:=wo.heap.size) (e:=3) (size:=1) wo #[] 0 (Nat.le_refl _) (by decide) rfl
     case round =>
      obtain ⟨j,hj,rfl,rfl,hok,hbq⟩:=hrel
      have hz:wo.heap.size≤wr.heap.size:=hbq.size
      by_cases hjq:j < q
      ·have hjl:j < ks.length:=by rw [HQ.out];exact hjq
       obtain ⟨gu,rfl,_,hgu,cx⟩:=hxc j hjq
       have hxi:=hlti ks[j] (List.getElem_mem hjl)
       have htk:ks.take (j+1)=ks.take j++[ks[j]]:=by rw [List.take_add_one];simp [hjl]
       clear hxc hlti
       obtain ⟨x,hx⟩:∃ x,x=ks[j]:=⟨_,rfl⟩
       rw [← hx] at cx hxi htk
       have hxn:x < ns.length:=by omega
       have hxh:x < hs.length:=by omega
       obtain ⟨gh,rfl,_,hgh,chx⟩:=hhc x (by omega)
       have cgo:wr.cell? ⟨go,i,none⟩=some (.slice (some ⟨gu,0,none⟩) q cu2):=by rw [hbq.cell (p:=⟨go,i,none⟩) (by simp;omega)];exact cu
       have cgu:wr.cell? ⟨gu,j,none⟩=some (.int .i64 (x:Int)):=by rw [hbq.cell (p:=⟨gu,j,none⟩) hgu];exact cx
       have cgt:wr.cell? ⟨w.heap.size,0,none⟩=some (.slice (some ⟨gv,0,none⟩) n cv):=by rw [hbq.cell (p:=⟨w.heap.size,0,none⟩) (by simp;omega)];exact ct
       have cgn:wr.cell? ⟨gv,x * 6,none⟩=some (.int .i64 (Mill.kindAt ns x)):=by
        rw [hbq.cell (p:=⟨gv,x * 6,none⟩) (by simp;omega),hbw.cell (p:=⟨gv,x * 6,none⟩) hgv,Mill.kindAt_eq ns x hxn]
        have:=hnc' x hxn 0 (by omega)
        simpa [Mill.ndC] using this
       have cgh:wr.cell? ⟨gh,x,none⟩=some (.int .i64 (hs[x]:Int)):=by rw [hbq.cell (p:=⟨gh,x,none⟩) hgh];exact chx
       have HH:Hid (Mill.highOf hs (ks.take (j+1))=max (Mill.highOf hs (ks.take j)) (hs[x]+1)):=by rw [Hid,htk,Mill.highOf_snoc,Mill.getD_eq hs x hxh]
       have HI:Hid (Mill.ints (Mill.kindsOf ns (ks.take (j+1)))=Mill.ints (Mill.kindsOf ns (ks.take j))++[.int .i64 (Mill.kindAt ns x)]):=by rw [Hid,htk,Mill.kindsOf,List.map_append,Mill.ints_app];rfl
       have h6x:hs[x]≤60:=hh60 _ (List.getElem_mem hxh)
       have h61:Mill.highOf hs (ks.take j)≤61:=Mill.highOf_bd hs hh60 _
       generalize hs[x]=y at *
       generalize Mill.kindAt ns x=kd at *
       generalize Mill.highOf hs (ks.take j)=H at *
       clear htk hx hhc hnc' ct ct1 cu1
       have hxn':x < n:=by rw [← HN.out];exact hxn
       by_cases hy:H < y+1
       ·have hy':(H:Int) < (y:Int)+1:=by omega
        go_wp2_with fail
        go_region_law (refine Mill.step_append_own rfl (.tmp 34) (.tmp 47) 63 rfl wo.heap.size 3 i0 (.int .i64 0) 1 8 Tryz.underlying63 hi0 hz0 hz1' hz2 rfl (by decide) _ _ _ rfl (by repeat (first | exact hok | apply World.ownsRow.drew | apply World.ownsRow.alloc)) ⟨wr.heap.size,0,none⟩ 1 1 [.int .i64 kd] rfl rfl (by intro j u hu;exact cell_one_new _ _ _ j u hu) (Mill.int_one _) (by unfold maxLen;omega) (by omega) (by simp;omega) ?_;intro v' w3 hown' hgrow3)
        all_goals
         have hb3:Below wo.heap.size wo w3:=Below.grown (by repeat (first | exact hbq | apply Below.drew | (refine Below.alloc ?_ (by simpa using hz) _))) hgrow3 (by simp;omega) (fun j hj=>(hok.lt _ hj).1)
         have dgo:w3.cell? ⟨go,i,none⟩=some (.slice (some ⟨gu,0,none⟩) q cu2):=by rw [hb3.cell (p:=⟨go,i,none⟩) (by simp;omega)];exact cu
         have dgu:w3.cell? ⟨gu,j,none⟩=some (.int .i64 (x:Int)):=by rw [hb3.cell (p:=⟨gu,j,none⟩) hgu];exact cx
         have dgh:w3.cell? ⟨gh,x,none⟩=some (.int .i64 (y:Int)):=by rw [hb3.cell (p:=⟨gh,x,none⟩) hgh];exact chx
         go_wp2
         go_roundw
         case rel=>exact ⟨j+1,by omega,by go_num,by rw [HH.out,Nat.max_eq_right (by omega)];rfl,by rw [HI.out];exact hown',hb3⟩
         case measure=>simp [intOf];omega
       ·have hy':¬ (H:Int) < (y:Int)+1:=by omega
        go_wp2_with fail
        go_region_law (refine Mill.step_append_own rfl (.tmp 34) (.tmp 47) 63 rfl wo.heap.size 3 i0 (.int .i64 0) 1 8 Tryz.underlying63 hi0 hz0 hz1' hz2 rfl (by decide) _ _ _ rfl (by repeat (first | exact hok | apply World.ownsRow.drew | apply World.ownsRow.alloc)) ⟨wr.heap.size,0,none⟩ 1 1 [.int .i64 kd] rfl rfl (by intro j u hu;exact cell_one_new _ _ _ j u hu) (Mill.int_one _) (by unfold maxLen;omega) (by omega) (by simp;omega) ?_;intro v' w3 hown' hgrow3)
        all_goals
         have hb3:Below wo.heap.size wo w3:=Below.grown (by repeat (first | exact hbq | apply Below.drew | (refine Below.alloc ?_ (by simpa using hz) _))) hgrow3 (by simp;omega) (fun j hj=>(hok.lt _ hj).1)
         have dgo:w3.cell? ⟨go,i,none⟩=some (.slice (some ⟨gu,0,none⟩) q cu2):=by rw [hb3.cell (p:=⟨go,i,none⟩) (by simp;omega)];exact cu
         have dgu:w3.cell? ⟨gu,j,none⟩=some (.int .i64 (x:Int)):=by rw [hb3.cell (p:=⟨gu,j,none⟩) hgu];exact cx
         have dgh:w3.cell? ⟨gh,x,none⟩=some (.int .i64 (y:Int)):=by rw [hb3.cell (p:=⟨gh,x,none⟩) hgh];exact chx
         go_wp2
         go_roundw
         case rel=>exact ⟨j+1,by omega,by go_num,by rw [HH.out,Nat.max_eq_left (by omega)],by rw [HI.out];exact hown',hb3⟩
         case measure=>simp [intOf];omega
      ·have hjq2:j=q:=by omega
       subst hjq2
       have hta:ks.take j=ks:=List.take_of_length_le (by rw [HQ.out];exact Nat.le_refl _)
       rw [hta] at hok ⊢
       obtain ⟨d,HD⟩:∃ d,Hid (ns[i]? = some d):=⟨ns[i],List.getElem?_eq_getElem hin⟩
       have hdi:ns[i]=d:=by have:=HD.out;rw [List.getElem?_eq_getElem hin] at this;exact Option.some.inj this
       have hB:Below w1.heap.size w1 wr:=hbw.trans (hbq.mono hzr)
       have cgo:wr.cell? ⟨go,i,none⟩=some (.slice au j cu2):=by rw [hbq.cell (p:=⟨go,i,none⟩) (by simp;omega)];exact cu
       have hnd:∀ {W:World},Below w1.heap.size w1 W→(W.cell? ⟨w.heap.size,0,none⟩=some (.slice (some ⟨gv,0,none⟩) n cv)∧W.cell? ⟨gv,i * 6,none⟩=some (.int .i64 d.kind)∧W.cell? ⟨gv,i * 6+1,none⟩=some (.int .i64 d.op)∧W.cell? ⟨gv,i * 6+2,none⟩=some (.int .i64 d.type)∧W.cell? ⟨gv,i * 6+3,none⟩=some (.int .i64 d.n)∧W.cell? ⟨gv,i * 6+4,none⟩=some (.string d.text)∧W.cell? ⟨gv,i * 6+5,none⟩=some (.int .i64 d.kids)):=by
        intro W hW
        have hq:∀ m,m < 6→W.cell? ⟨gv,i * 6+m,none⟩=(Mill.ndC d)[m]?:=fun m hm=>by
         rw [hW.cell (p:=⟨gv,i * 6+m,none⟩) hgv,hnc' i hin m hm,hdi]
        exact ⟨by rw [hW.cell (p:=⟨w.heap.size,0,none⟩) hz1];exact ct1,hq 0 (by omega),hq 1 (by omega),hq 2 (by omega),hq 3 (by omega),hq 4 (by omega),hq 5 (by omega)⟩
       have hownr:=Mill.tree_own hown hbq
       have h61:Mill.highOf hs ks≤61:=Mill.highOf_bd hs hh60 _
       have HNO:Hid (Mill.nodeOk ns i (Mill.highOf hs ks) ks=(decide (Mill.highOf hs ks≤60) && Mill.fields d && Mill.fits d.kind d.op (Mill.kindsOf ns ks))):=by rw [Hid,Mill.nodeOk,HD.out]
       have HQK:Hid ((Mill.kindsOf ns ks).length=j):=by rw [Hid,Mill.kindsOf,List.length_map];exact HQ.out
       have HNo:Hid (Mill.nodeOk ns i (Mill.highOf hs ks) ks=false→Mill.valid ns=false):=by
        intro h
        have:=Mill.validL_no ns K i hs hiK (by rw [HKS.out];exact h)
        rw [HV.out,← hu,this];rfl
       have HYes:Hid (Mill.nodeOk ns i (Mill.highOf hs ks) ks=true→Mill.validL ns (K.drop (i+1)) (i+1) (hs++[Mill.highOf hs ks])=Mill.validL ns K 0 []):=by
        intro h
        have:=Mill.validL_yes ns K i hs hiK (by rw [HKS.out];exact h)
        rw [HKS.out] at this
        rw [← this];exact hu
       have happ:Mill.apart u7 (.slice ah i ch):=by
        intro g h1 h2
        have:=(hok.lt g h1).1
        have:=(hown.lt g h2).2
        omega
       clear hxc hhc hlti hu hnc' hdi ct ct1 cu cu1 ou ou1 hta
       generalize Mill.highOf hs ks=H at *
       by_cases h60:H≤60
       ·have h60':¬ (60:Int) < (H:Int):=by omega
        cases hF:Mill.fields d with
        | false =>
         have HF:Hid (Mill.fields d=false):=hF
         have HE:Hid (Mill.valid ns=false):=HNo.out (by rw [HNO.out,hF];simp)
         clear hF
         go_wp2_with (first
          | (at_builtin;refine wpList_append_own _ rfl _ _ 63 rfl w1.heap.size 3 i0 (.int .i64 0) 1 8 Tryz.underlying63 hi0 hz0 hz1' hz2 rfl (by decide) _ _ _ rfl (hownr.alloc _) ⟨wr.heap.size,0,none⟩ 1 1 [.int .i64 (H:Int)] rfl rfl (cell_one_new _ _ _) (Mill.int_one _) (by unfold maxLen;omega) (by omega) (by simp;omega) ?_;intro v' w4 own4 g4 _;have hB4:Below w1.heap.size w1 w4:=Below.grown (hB.alloc (by omega) _) g4 (by simp;omega) (fun j hj=>(hown.lt _ hj).1);obtain ⟨e0,e1,e2,e3,e4,e5,e6⟩:=hnd hB4;have hk4:w4.ownsRow wo.heap.size 3 1 u7 j (Mill.ints (Mill.kindsOf ns ks)):=Mill.kept (hok.alloc _) g4 happ)
          | (go_at_call 29;refine (l2Fields_is d false HF _).mono ?_;rintro e w5 ⟨rfl,hb5⟩;have hB5:Below w1.heap.size w1 w5:=hB4.trans (hb5.mono hB4.size);obtain ⟨f0,f1,f2,f3,f4,f5,f6⟩:=hnd hB5;have hk5:=Mill.tree_own hk4 hb5))
         go_ret
         exact ⟨Mill.ret_bool HE.out.symm,hb0.trans (hB5.mono (by omega))⟩
        | true =>
         have HF:Hid (Mill.fields d=true):=hF
         cases hT:Mill.fits d.kind d.op (Mill.kindsOf ns ks) with
         | false =>
          have HT:Hid (Mill.fits d.kind d.op (Mill.kindsOf ns ks)=false):=hT
          have HE:Hid (Mill.valid ns=false):=HNo.out (by rw [HNO.out,hF,hT];simp)
          clear hF hT
          go_wp2_with (first
           | (at_builtin;refine wpList_append_own _ rfl _ _ 63 rfl w1.heap.size 3 i0 (.int .i64 0) 1 8 Tryz.underlying63 hi0 hz0 hz1' hz2 rfl (by decide) _ _ _ rfl (hownr.alloc _) ⟨wr.heap.size,0,none⟩ 1 1 [.int .i64 (H:Int)] rfl rfl (cell_one_new _ _ _) (Mill.int_one _) (by unfold maxLen;omega) (by omega) (by simp;omega) ?_;intro v' w4 own4 g4 _;have hB4:Below w1.heap.size w1 w4:=Below.grown (hB.alloc (by omega) _) g4 (by simp;omega) (fun j hj=>(hown.lt _ hj).1);obtain ⟨e0,e1,e2,e3,e4,e5,e6⟩:=hnd hB4;have hk4:w4.ownsRow wo.heap.size 3 1 u7 j (Mill.ints (Mill.kindsOf ns ks)):=Mill.kept (hok.alloc _) g4 happ)
           | (go_at_call 29;refine (l2Fields_is d true HF _).mono ?_;rintro e w5 ⟨rfl,hb5⟩;have hB5:Below w1.heap.size w1 w5:=hB4.trans (hb5.mono hB4.size);obtain ⟨f0,f1,f2,f3,f4,f5,f6⟩:=hnd hB5;have hk5:=Mill.tree_own hk4 hb5)
           | (go_at_call 30;refine (l2Fits_is d (Mill.kindsOf ns ks) false HT u7 wo.heap.size j HQK _ hk5 (by omega)).mono ?_;rintro e w6 ⟨rfl,hb6⟩))
          go_ret
          exact ⟨Mill.ret_bool HE.out.symm,hb0.trans ((hB5.trans (hb6.mono hB5.size)).mono (by omega))⟩
         | true =>
          have HT:Hid (Mill.fits d.kind d.op (Mill.kindsOf ns ks)=true):=hT
          have HE:=HYes.out (by rw [HNO.out,hF,hT];simp [h60])
          have HE':Hid (Mill.validL ns (K.drop (i+1)) (i+1) (hs++[H])=Mill.validL ns K 0 []):=HE
          clear hF hT HE
          go_wp2_with (first
           | (at_builtin;refine wpList_append_own _ rfl _ _ 63 rfl w1.heap.size 3 i0 (.int .i64 0) 1 8 Tryz.underlying63 hi0 hz0 hz1' hz2 rfl (by decide) _ _ _ rfl (hownr.alloc _) ⟨wr.heap.size,0,none⟩ 1 1 [.int .i64 (H:Int)] rfl rfl (cell_one_new _ _ _) (Mill.int_one _) (by unfold maxLen;omega) (by omega) (by simp;omega) ?_;intro v' w4 own4 g4 _;have hB4:Below w1.heap.size w1 w4:=Below.grown (hB.alloc (by omega) _) g4 (by simp;omega) (fun j hj=>(hown.lt _ hj).1);obtain ⟨e0,e1,e2,e3,e4,e5,e6⟩:=hnd hB4;have hk4:w4.ownsRow wo.heap.size 3 1 u7 j (Mill.ints (Mill.kindsOf ns ks)):=Mill.kept (hok.alloc _) g4 happ)
           | (go_at_call 29;refine (l2Fields_is d true HF _).mono ?_;rintro e w5 ⟨rfl,hb5⟩;have hB5:Below w1.heap.size w1 w5:=hB4.trans (hb5.mono hB4.size);obtain ⟨f0,f1,f2,f3,f4,f5,f6⟩:=hnd hB5;have hk5:=Mill.tree_own hk4 hb5)
           | (go_at_call 30;refine (l2Fits_is d (Mill.kindsOf ns ks) true HT u7 wo.heap.size j HQK _ hk5 (by omega)).mono ?_;rintro e w6 ⟨rfl,hb6⟩))
          have own6:=Mill.tree_own (Mill.tree_own own4 hb5) hb6
          go_roundw
          case rel =>
           refine ⟨i+1,hs++[H],by omega,by go_num,by simp [hhl], ?_, ?_,hB5.trans (hb6.mono hB5.size),HE'.out⟩
           ·intro x hx
            rcases List.mem_append.1 hx with hx | hx
            ·exact hh60 x hx
            ·simp at hx;omega
           ·rw [Mill.nats_app];exact own6
          case measure=>simp [intOf];omega
       ·have h60':(60:Int) < (H:Int):=by omega
        have HE:Hid (Mill.valid ns=false):=HNo.out (by rw [HNO.out];simp [h60])
        go_wp2_with (first
         | (at_builtin;refine wpList_append_own _ rfl _ _ 63 rfl w1.heap.size 3 i0 (.int .i64 0) 1 8 Tryz.underlying63 hi0 hz0 hz1' hz2 rfl (by decide) _ _ _ rfl (hownr.alloc _) ⟨wr.heap.size,0,none⟩ 1 1 [.int .i64 (H:Int)] rfl rfl (cell_one_new _ _ _) (Mill.int_one _) (by unfold maxLen;omega) (by omega) (by simp;omega) ?_;intro v' w4 own4 g4 _;have hB4:Below w1.heap.size w1 w4:=Below.grown (hB.alloc (by omega) _) g4 (by simp;omega) (fun j hj=>(hown.lt _ hj).1);obtain ⟨e0,e1,e2,e3,e4,e5,e6⟩:=hnd hB4;have hk4:w4.ownsRow wo.heap.size 3 1 u7 j (Mill.ints (Mill.kindsOf ns ks)):=Mill.kept (hok.alloc _) g4 happ))
        go_ret
        exact ⟨Mill.ret_bool HE.out.symm,hb0.trans (hB4.mono (by omega))⟩
    ·have hie:i=n:=by omega
     subst hie
     have HF:Hid (Mill.valid ns=(Mill.kindAt ns (i - 1) == 24)):=by
      rw [List.drop_of_length_le (by rw [HK.out];exact Nat.le_refl _)] at hu
      rw [Hid,HV.out,← hu,HN.out];rfl
     have hi1:i - 1 < ns.length:=by rw [HN.out];omega
     have ck:wo.cell? ⟨gv,(i - 1) * 6,none⟩=some (.int .i64 (Mill.kindAt ns (i - 1))):=by
      rw [hbw.cell (p:=⟨gv,(i - 1) * 6,none⟩) hgv,Mill.kindAt_eq ns (i - 1) hi1]
      have:=hnc' (i - 1) hi1 0 (by omega)
      simpa [Mill.ndC] using this
     have ct:wo.cell? ⟨w.heap.size,0,none⟩=some (.slice (some ⟨gv,0,none⟩) i cv):=by rw [hbw.cell (p:=⟨w.heap.size,0,none⟩) hz1];exact ct1
     have hw1:((i:Int) - 1).toNat=i - 1:=by omega
     have hbe:Below w.heap.size w wo:=hb0.trans (hbw.mono (by omega))
     generalize Mill.kindAt ns (i - 1)=kd at *
     clear hu hnc' hvs hKlt
     go_wp2
     go_ret
     exact ⟨Mill.ret_bool HF.out.symm,hbe⟩
  ·have HV:Hid (Mill.valid ns=false):=by rw [Hid,Mill.valid,hR];simp [ho]
   go_enter Tryz.func12,Tryz.ntmps12
   go_wp2_with (go_at_call 28;refine (l2Kids_any ns v _ (Mill.nodesAt_below hN ((Below.refl _ w).alloc (Nat.le_refl _) _))).mono ?_;rintro e w1 ⟨vo,ok,rfl,hb,hk⟩;rw [hR] at hk;simp only [ho,decide_false] at hk;obtain ⟨rfl,vs,htab⟩:=hk;rw [World.size_alloc] at hb)
   go_ret
   exact ⟨Mill.ret_bool HV.out.symm,((Below.refl _ w).alloc (Nat.le_refl _) _).trans (hb.mono (by omega))⟩
inductive Mill.Tr where
 | node:Mill.Nd→List Mill.Tr→Mill.Tr
def Mill.Tr.nd : Mill.Tr→Mill.Nd
 | .node d _=>d
def Mill.Tr.kids : Mill.Tr→List Mill.Tr
 | .node _ ks=>ks
mutual
def Mill.Tr.high : Mill.Tr→Nat
 | .node _ ks=>Mill.Tr.highs ks
def Mill.Tr.highs : List Mill.Tr→Nat
 | []=>0
 | t::r=>max (Mill.Tr.high t+1) (Mill.Tr.highs r)
end
def Mill.ty (k:Int):TypeId:=if k=1 then 156 else if k=2 then 158 else if k=3 then 160 else if k=4 then 162 else if k=5 then 164 else if k=6 then 166 else if k=7 then 168 else if k=8 then 173 else if k=9 then 175 else if k=10 then 177 else if k=11 then 178 else if k=12 then 151 else if k=13 then 154 else if k=14 then 180 else if k=15 then 181 else if k=16 then 183 else if k=17 then 185 else if k=18 then 187 else if k=19 then 188 else if k=20 then 190 else if k=21 then 77 else if k=22 then 135 else if k=23 then 79 else 51
theorem Mill.kind24 (k:Int) (h1:1≤k) (h2:k≤24):k=1∨k=2∨k=3∨k=4∨k=5∨k=6∨k=7∨k=8∨k=9∨k=10∨k=11∨k=12∨k=13∨k=14∨k=15∨k=16∨k=17∨k=18∨k=19∨k=20∨k=21∨k=22∨k=23∨k=24:=by omega
theorem Tryz.ta_intNode (t:TypeId) (x:Value) (w:World):(Instr.typeAssert (.iface t x) 70 156 true).run Tryz.prog w = .ok (if t=156 then .tuple #[x,.bool true] else .tuple #[.agg #[.int .i64 0,.int .i64 0],.bool false]) w:=by
 have z:(do pure (Value.tuple #[← zeroValue 156,.bool false]):Sem Value).run Tryz.prog w = .ok (.tuple #[.agg #[.int .i64 0,.int .i64 0],.bool false]) w:=by kernel_rfl
 have e:(Instr.typeAssert (.iface t x) 70 156 true).run Tryz.prog w=(if t=156 then (pure (Value.tuple #[x,.bool true]):Sem Value) else (do pure (Value.tuple #[← zeroValue 156,.bool false]))).run Tryz.prog w:=by kernel_rfl
 rw [e]
 by_cases h:t=156
 ·rw [if_pos h,if_pos h];rfl
 ·rw [if_neg h,if_neg h];exact z
theorem Tryz.ta_textNode (t:TypeId) (x:Value) (w:World):(Instr.typeAssert (.iface t x) 70 158 true).run Tryz.prog w = .ok (if t=158 then .tuple #[x,.bool true] else .tuple #[.agg #[.string ByteArray.empty],.bool false]) w:=by
 have z:(do pure (Value.tuple #[← zeroValue 158,.bool false]):Sem Value).run Tryz.prog w = .ok (.tuple #[.agg #[.string ByteArray.empty],.bool false]) w:=by kernel_rfl
 have e:(Instr.typeAssert (.iface t x) 70 158 true).run Tryz.prog w=(if t=158 then (pure (Value.tuple #[x,.bool true]):Sem Value) else (do pure (Value.tuple #[← zeroValue 158,.bool false]))).run Tryz.prog w:=by kernel_rfl
 rw [e]
 by_cases h:t=158
 ·rw [if_pos h,if_pos h];rfl
 ·rw [if_neg h,if_neg h];exact z
theorem Tryz.ta_boolNode (t:TypeId) (x:Value) (w:World):(Instr.typeAssert (.iface t x) 70 160 true).run Tryz.prog w = .ok (if t=160 then .tuple #[x,.bool true] else .tuple #[.agg #[.bool false],.bool false]) w:=by
 have z:(do pure (Value.tuple #[← zeroValue 160,.bool false]):Sem Value).run Tryz.prog w = .ok (.tuple #[.agg #[.bool false],.bool false]) w:=by kernel_rfl
 have e:(Instr.typeAssert (.iface t x) 70 160 true).run Tryz.prog w=(if t=160 then (pure (Value.tuple #[x,.bool true]):Sem Value) else (do pure (Value.tuple #[← zeroValue 160,.bool false]))).run Tryz.prog w:=by kernel_rfl
 rw [e]
 by_cases h:t=160
 ·rw [if_pos h,if_pos h];rfl
 ·rw [if_neg h,if_neg h];exact z
theorem Tryz.ta_nameNode (t:TypeId) (x:Value) (w:World):(Instr.typeAssert (.iface t x) 70 162 true).run Tryz.prog w = .ok (if t=162 then .tuple #[x,.bool true] else .tuple #[.agg #[.string ByteArray.empty],.bool false]) w:=by
 have z:(do pure (Value.tuple #[← zeroValue 162,.bool false]):Sem Value).run Tryz.prog w = .ok (.tuple #[.agg #[.string ByteArray.empty],.bool false]) w:=by kernel_rfl
 have e:(Instr.typeAssert (.iface t x) 70 162 true).run Tryz.prog w=(if t=162 then (pure (Value.tuple #[x,.bool true]):Sem Value) else (do pure (Value.tuple #[← zeroValue 162,.bool false]))).run Tryz.prog w:=by kernel_rfl
 rw [e]
 by_cases h:t=162
 ·rw [if_pos h,if_pos h];rfl
 ·rw [if_neg h,if_neg h];exact z
theorem Tryz.ta_unNode (t:TypeId) (x:Value) (w:World):(Instr.typeAssert (.iface t x) 70 164 true).run Tryz.prog w = .ok (if t=164 then .tuple #[x,.bool true] else .tuple #[.agg #[.int .i64 0,.nilIface],.bool false]) w:=by
 have z:(do pure (Value.tuple #[← zeroValue 164,.bool false]):Sem Value).run Tryz.prog w = .ok (.tuple #[.agg #[.int .i64 0,.nilIface],.bool false]) w:=by kernel_rfl
 have e:(Instr.typeAssert (.iface t x) 70 164 true).run Tryz.prog w=(if t=164 then (pure (Value.tuple #[x,.bool true]):Sem Value) else (do pure (Value.tuple #[← zeroValue 164,.bool false]))).run Tryz.prog w:=by kernel_rfl
 rw [e]
 by_cases h:t=164
 ·rw [if_pos h,if_pos h];rfl
 ·rw [if_neg h,if_neg h];exact z
theorem Tryz.ta_binNode (t:TypeId) (x:Value) (w:World):(Instr.typeAssert (.iface t x) 70 166 true).run Tryz.prog w = .ok (if t=166 then .tuple #[x,.bool true] else .tuple #[.agg #[.int .i64 0,.nilIface,.nilIface],.bool false]) w:=by
 have z:(do pure (Value.tuple #[← zeroValue 166,.bool false]):Sem Value).run Tryz.prog w = .ok (.tuple #[.agg #[.int .i64 0,.nilIface,.nilIface],.bool false]) w:=by kernel_rfl
 have e:(Instr.typeAssert (.iface t x) 70 166 true).run Tryz.prog w=(if t=166 then (pure (Value.tuple #[x,.bool true]):Sem Value) else (do pure (Value.tuple #[← zeroValue 166,.bool false]))).run Tryz.prog w:=by kernel_rfl
 rw [e]
 by_cases h:t=166
 ·rw [if_pos h,if_pos h];rfl
 ·rw [if_neg h,if_neg h];exact z
theorem Tryz.ta_callNode (t:TypeId) (x:Value) (w:World):(Instr.typeAssert (.iface t x) 70 168 true).run Tryz.prog w = .ok (if t=168 then .tuple #[x,.bool true] else .tuple #[.agg #[.string ByteArray.empty,.slice none 0 0],.bool false]) w:=by
 have z:(do pure (Value.tuple #[← zeroValue 168,.bool false]):Sem Value).run Tryz.prog w = .ok (.tuple #[.agg #[.string ByteArray.empty,.slice none 0 0],.bool false]) w:=by kernel_rfl
 have e:(Instr.typeAssert (.iface t x) 70 168 true).run Tryz.prog w=(if t=168 then (pure (Value.tuple #[x,.bool true]):Sem Value) else (do pure (Value.tuple #[← zeroValue 168,.bool false]))).run Tryz.prog w:=by kernel_rfl
 rw [e]
 by_cases h:t=168
 ·rw [if_pos h,if_pos h];rfl
 ·rw [if_neg h,if_neg h];exact z
theorem Tryz.ta_builtNode (t:TypeId) (x:Value) (w:World):(Instr.typeAssert (.iface t x) 70 173 true).run Tryz.prog w = .ok (if t=173 then .tuple #[x,.bool true] else .tuple #[.agg #[.int .i64 0,.slice none 0 0],.bool false]) w:=by
 have z:(do pure (Value.tuple #[← zeroValue 173,.bool false]):Sem Value).run Tryz.prog w = .ok (.tuple #[.agg #[.int .i64 0,.slice none 0 0],.bool false]) w:=by kernel_rfl
 have e:(Instr.typeAssert (.iface t x) 70 173 true).run Tryz.prog w=(if t=173 then (pure (Value.tuple #[x,.bool true]):Sem Value) else (do pure (Value.tuple #[← zeroValue 173,.bool false]))).run Tryz.prog w:=by kernel_rfl
 rw [e]
 by_cases h:t=173
 ·rw [if_pos h,if_pos h];rfl
 ·rw [if_neg h,if_neg h];exact z
theorem Tryz.ta_convNode (t:TypeId) (x:Value) (w:World):(Instr.typeAssert (.iface t x) 70 175 true).run Tryz.prog w = .ok (if t=175 then .tuple #[x,.bool true] else .tuple #[.agg #[.int .i64 0,.nilIface],.bool false]) w:=by
 have z:(do pure (Value.tuple #[← zeroValue 175,.bool false]):Sem Value).run Tryz.prog w = .ok (.tuple #[.agg #[.int .i64 0,.nilIface],.bool false]) w:=by kernel_rfl
 have e:(Instr.typeAssert (.iface t x) 70 175 true).run Tryz.prog w=(if t=175 then (pure (Value.tuple #[x,.bool true]):Sem Value) else (do pure (Value.tuple #[← zeroValue 175,.bool false]))).run Tryz.prog w:=by kernel_rfl
 rw [e]
 by_cases h:t=175
 ·rw [if_pos h,if_pos h];rfl
 ·rw [if_neg h,if_neg h];exact z
theorem Tryz.ta_letNode (t:TypeId) (x:Value) (w:World):(Instr.typeAssert (.iface t x) 70 177 true).run Tryz.prog w = .ok (if t=177 then .tuple #[x,.bool true] else .tuple #[.agg #[.string ByteArray.empty,.nilIface],.bool false]) w:=by
 have z:(do pure (Value.tuple #[← zeroValue 177,.bool false]):Sem Value).run Tryz.prog w = .ok (.tuple #[.agg #[.string ByteArray.empty,.nilIface],.bool false]) w:=by kernel_rfl
 have e:(Instr.typeAssert (.iface t x) 70 177 true).run Tryz.prog w=(if t=177 then (pure (Value.tuple #[x,.bool true]):Sem Value) else (do pure (Value.tuple #[← zeroValue 177,.bool false]))).run Tryz.prog w:=by kernel_rfl
 rw [e]
 by_cases h:t=177
 ·rw [if_pos h,if_pos h];rfl
 ·rw [if_neg h,if_neg h];exact z
theorem Tryz.ta_setNode (t:TypeId) (x:Value) (w:World):(Instr.typeAssert (.iface t x) 70 178 true).run Tryz.prog w = .ok (if t=178 then .tuple #[x,.bool true] else .tuple #[.agg #[.string ByteArray.empty,.nilIface],.bool false]) w:=by
 have z:(do pure (Value.tuple #[← zeroValue 178,.bool false]):Sem Value).run Tryz.prog w = .ok (.tuple #[.agg #[.string ByteArray.empty,.nilIface],.bool false]) w:=by kernel_rfl
 have e:(Instr.typeAssert (.iface t x) 70 178 true).run Tryz.prog w=(if t=178 then (pure (Value.tuple #[x,.bool true]):Sem Value) else (do pure (Value.tuple #[← zeroValue 178,.bool false]))).run Tryz.prog w:=by kernel_rfl
 rw [e]
 by_cases h:t=178
 ·rw [if_pos h,if_pos h];rfl
 ·rw [if_neg h,if_neg h];exact z
theorem Tryz.ta_ifNode (t:TypeId) (x:Value) (w:World):(Instr.typeAssert (.iface t x) 70 151 true).run Tryz.prog w = .ok (if t=151 then .tuple #[x,.bool true] else .tuple #[.agg #[.nilIface,.slice none 0 0,.nilIface],.bool false]) w:=by
 have z:(do pure (Value.tuple #[← zeroValue 151,.bool false]):Sem Value).run Tryz.prog w = .ok (.tuple #[.agg #[.nilIface,.slice none 0 0,.nilIface],.bool false]) w:=by kernel_rfl
 have e:(Instr.typeAssert (.iface t x) 70 151 true).run Tryz.prog w=(if t=151 then (pure (Value.tuple #[x,.bool true]):Sem Value) else (do pure (Value.tuple #[← zeroValue 151,.bool false]))).run Tryz.prog w:=by kernel_rfl
 rw [e]
 by_cases h:t=151
 ·rw [if_pos h,if_pos h];rfl
 ·rw [if_neg h,if_neg h];exact z
theorem Tryz.ta_whileNode (t:TypeId) (x:Value) (w:World):(Instr.typeAssert (.iface t x) 70 154 true).run Tryz.prog w = .ok (if t=154 then .tuple #[x,.bool true] else .tuple #[.agg #[.nilIface,.slice none 0 0],.bool false]) w:=by
 have z:(do pure (Value.tuple #[← zeroValue 154,.bool false]):Sem Value).run Tryz.prog w = .ok (.tuple #[.agg #[.nilIface,.slice none 0 0],.bool false]) w:=by kernel_rfl
 have e:(Instr.typeAssert (.iface t x) 70 154 true).run Tryz.prog w=(if t=154 then (pure (Value.tuple #[x,.bool true]):Sem Value) else (do pure (Value.tuple #[← zeroValue 154,.bool false]))).run Tryz.prog w:=by kernel_rfl
 rw [e]
 by_cases h:t=154
 ·rw [if_pos h,if_pos h];rfl
 ·rw [if_neg h,if_neg h];exact z
theorem Tryz.ta_breakNode (t:TypeId) (x:Value) (w:World):(Instr.typeAssert (.iface t x) 70 180 true).run Tryz.prog w = .ok (if t=180 then .tuple #[x,.bool true] else .tuple #[.agg #[],.bool false]) w:=by
 have z:(do pure (Value.tuple #[← zeroValue 180,.bool false]):Sem Value).run Tryz.prog w = .ok (.tuple #[.agg #[],.bool false]) w:=by kernel_rfl
 have e:(Instr.typeAssert (.iface t x) 70 180 true).run Tryz.prog w=(if t=180 then (pure (Value.tuple #[x,.bool true]):Sem Value) else (do pure (Value.tuple #[← zeroValue 180,.bool false]))).run Tryz.prog w:=by kernel_rfl
 rw [e]
 by_cases h:t=180
 ·rw [if_pos h,if_pos h];rfl
 ·rw [if_neg h,if_neg h];exact z
theorem Tryz.ta_continueNode (t:TypeId) (x:Value) (w:World):(Instr.typeAssert (.iface t x) 70 181 true).run Tryz.prog w = .ok (if t=181 then .tuple #[x,.bool true] else .tuple #[.agg #[],.bool false]) w:=by
 have z:(do pure (Value.tuple #[← zeroValue 181,.bool false]):Sem Value).run Tryz.prog w = .ok (.tuple #[.agg #[],.bool false]) w:=by kernel_rfl
 have e:(Instr.typeAssert (.iface t x) 70 181 true).run Tryz.prog w=(if t=181 then (pure (Value.tuple #[x,.bool true]):Sem Value) else (do pure (Value.tuple #[← zeroValue 181,.bool false]))).run Tryz.prog w:=by kernel_rfl
 rw [e]
 by_cases h:t=181
 ·rw [if_pos h,if_pos h];rfl
 ·rw [if_neg h,if_neg h];exact z
theorem Tryz.ta_returnNode (t:TypeId) (x:Value) (w:World):(Instr.typeAssert (.iface t x) 70 183 true).run Tryz.prog w = .ok (if t=183 then .tuple #[x,.bool true] else .tuple #[.agg #[.nilIface],.bool false]) w:=by
 have z:(do pure (Value.tuple #[← zeroValue 183,.bool false]):Sem Value).run Tryz.prog w = .ok (.tuple #[.agg #[.nilIface],.bool false]) w:=by kernel_rfl
 have e:(Instr.typeAssert (.iface t x) 70 183 true).run Tryz.prog w=(if t=183 then (pure (Value.tuple #[x,.bool true]):Sem Value) else (do pure (Value.tuple #[← zeroValue 183,.bool false]))).run Tryz.prog w:=by kernel_rfl
 rw [e]
 by_cases h:t=183
 ·rw [if_pos h,if_pos h];rfl
 ·rw [if_neg h,if_neg h];exact z
theorem Tryz.ta_failNode (t:TypeId) (x:Value) (w:World):(Instr.typeAssert (.iface t x) 70 185 true).run Tryz.prog w = .ok (if t=185 then .tuple #[x,.bool true] else .tuple #[.agg #[.nilIface],.bool false]) w:=by
 have z:(do pure (Value.tuple #[← zeroValue 185,.bool false]):Sem Value).run Tryz.prog w = .ok (.tuple #[.agg #[.nilIface],.bool false]) w:=by kernel_rfl
 have e:(Instr.typeAssert (.iface t x) 70 185 true).run Tryz.prog w=(if t=185 then (pure (Value.tuple #[x,.bool true]):Sem Value) else (do pure (Value.tuple #[← zeroValue 185,.bool false]))).run Tryz.prog w:=by kernel_rfl
 rw [e]
 by_cases h:t=185
 ·rw [if_pos h,if_pos h];rfl
 ·rw [if_neg h,if_neg h];exact z
theorem Tryz.ta_writeNode (t:TypeId) (x:Value) (w:World):(Instr.typeAssert (.iface t x) 70 187 true).run Tryz.prog w = .ok (if t=187 then .tuple #[x,.bool true] else .tuple #[.agg #[.nilIface,.nilIface],.bool false]) w:=by
 have z:(do pure (Value.tuple #[← zeroValue 187,.bool false]):Sem Value).run Tryz.prog w = .ok (.tuple #[.agg #[.nilIface,.nilIface],.bool false]) w:=by kernel_rfl
 have e:(Instr.typeAssert (.iface t x) 70 187 true).run Tryz.prog w=(if t=187 then (pure (Value.tuple #[x,.bool true]):Sem Value) else (do pure (Value.tuple #[← zeroValue 187,.bool false]))).run Tryz.prog w:=by kernel_rfl
 rw [e]
 by_cases h:t=187
 ·rw [if_pos h,if_pos h];rfl
 ·rw [if_neg h,if_neg h];exact z
theorem Tryz.ta_sayNode (t:TypeId) (x:Value) (w:World):(Instr.typeAssert (.iface t x) 70 188 true).run Tryz.prog w = .ok (if t=188 then .tuple #[x,.bool true] else .tuple #[.agg #[.nilIface],.bool false]) w:=by
 have z:(do pure (Value.tuple #[← zeroValue 188,.bool false]):Sem Value).run Tryz.prog w = .ok (.tuple #[.agg #[.nilIface],.bool false]) w:=by kernel_rfl
 have e:(Instr.typeAssert (.iface t x) 70 188 true).run Tryz.prog w=(if t=188 then (pure (Value.tuple #[x,.bool true]):Sem Value) else (do pure (Value.tuple #[← zeroValue 188,.bool false]))).run Tryz.prog w:=by kernel_rfl
 rw [e]
 by_cases h:t=188
 ·rw [if_pos h,if_pos h];rfl
 ·rw [if_neg h,if_neg h];exact z
theorem Tryz.ta_doNode (t:TypeId) (x:Value) (w:World):(Instr.typeAssert (.iface t x) 70 190 true).run Tryz.prog w = .ok (if t=190 then .tuple #[x,.bool true] else .tuple #[.agg #[.string ByteArray.empty,.slice none 0 0],.bool false]) w:=by
 have z:(do pure (Value.tuple #[← zeroValue 190,.bool false]):Sem Value).run Tryz.prog w = .ok (.tuple #[.agg #[.string ByteArray.empty,.slice none 0 0],.bool false]) w:=by kernel_rfl
 have e:(Instr.typeAssert (.iface t x) 70 190 true).run Tryz.prog w=(if t=190 then (pure (Value.tuple #[x,.bool true]):Sem Value) else (do pure (Value.tuple #[← zeroValue 190,.bool false]))).run Tryz.prog w:=by kernel_rfl
 rw [e]
 by_cases h:t=190
 ·rw [if_pos h,if_pos h];rfl
 ·rw [if_neg h,if_neg h];exact z
theorem Tryz.ta_blockNode (t:TypeId) (x:Value) (w:World):(Instr.typeAssert (.iface t x) 70 77 true).run Tryz.prog w = .ok (if t=77 then .tuple #[x,.bool true] else .tuple #[.agg #[.slice none 0 0],.bool false]) w:=by
 have z:(do pure (Value.tuple #[← zeroValue 77,.bool false]):Sem Value).run Tryz.prog w = .ok (.tuple #[.agg #[.slice none 0 0],.bool false]) w:=by kernel_rfl
 have e:(Instr.typeAssert (.iface t x) 70 77 true).run Tryz.prog w=(if t=77 then (pure (Value.tuple #[x,.bool true]):Sem Value) else (do pure (Value.tuple #[← zeroValue 77,.bool false]))).run Tryz.prog w:=by kernel_rfl
 rw [e]
 by_cases h:t=77
 ·rw [if_pos h,if_pos h];rfl
 ·rw [if_neg h,if_neg h];exact z
theorem Tryz.ta_paramNode (t:TypeId) (x:Value) (w:World):(Instr.typeAssert (.iface t x) 70 135 true).run Tryz.prog w = .ok (if t=135 then .tuple #[x,.bool true] else .tuple #[.agg #[.string ByteArray.empty,.int .i64 0],.bool false]) w:=by
 have z:(do pure (Value.tuple #[← zeroValue 135,.bool false]):Sem Value).run Tryz.prog w = .ok (.tuple #[.agg #[.string ByteArray.empty,.int .i64 0],.bool false]) w:=by kernel_rfl
 have e:(Instr.typeAssert (.iface t x) 70 135 true).run Tryz.prog w=(if t=135 then (pure (Value.tuple #[x,.bool true]):Sem Value) else (do pure (Value.tuple #[← zeroValue 135,.bool false]))).run Tryz.prog w:=by kernel_rfl
 rw [e]
 by_cases h:t=135
 ·rw [if_pos h,if_pos h];rfl
 ·rw [if_neg h,if_neg h];exact z
theorem Tryz.ta_fnNode (t:TypeId) (x:Value) (w:World):(Instr.typeAssert (.iface t x) 70 79 true).run Tryz.prog w = .ok (if t=79 then .tuple #[x,.bool true] else .tuple #[.agg #[.string ByteArray.empty,.int .i64 0,.slice none 0 0,.slice none 0 0],.bool false]) w:=by
 have z:(do pure (Value.tuple #[← zeroValue 79,.bool false]):Sem Value).run Tryz.prog w = .ok (.tuple #[.agg #[.string ByteArray.empty,.int .i64 0,.slice none 0 0,.slice none 0 0],.bool false]) w:=by kernel_rfl
 have e:(Instr.typeAssert (.iface t x) 70 79 true).run Tryz.prog w=(if t=79 then (pure (Value.tuple #[x,.bool true]):Sem Value) else (do pure (Value.tuple #[← zeroValue 79,.bool false]))).run Tryz.prog w:=by kernel_rfl
 rw [e]
 by_cases h:t=79
 ·rw [if_pos h,if_pos h];rfl
 ·rw [if_neg h,if_neg h];exact z
theorem Tryz.ta_programNode (t:TypeId) (x:Value) (w:World):(Instr.typeAssert (.iface t x) 70 51 true).run Tryz.prog w = .ok (if t=51 then .tuple #[x,.bool true] else .tuple #[.agg #[.slice none 0 0],.bool false]) w:=by
 have z:(do pure (Value.tuple #[← zeroValue 51,.bool false]):Sem Value).run Tryz.prog w = .ok (.tuple #[.agg #[.slice none 0 0],.bool false]) w:=by kernel_rfl
 have e:(Instr.typeAssert (.iface t x) 70 51 true).run Tryz.prog w=(if t=51 then (pure (Value.tuple #[x,.bool true]):Sem Value) else (do pure (Value.tuple #[← zeroValue 51,.bool false]))).run Tryz.prog w:=by kernel_rfl
 rw [e]
 by_cases h:t=51
 ·rw [if_pos h,if_pos h];rfl
 ·rw [if_neg h,if_neg h];exact z
theorem isValue_ty (k:Int) (h1:1≤k) (h2:k≤24) (x:Value) (w:World) :
  Calls Tryz.prog 122 #[.iface (Mill.ty k) x] w fun e w'=>e = .returned (.bool (Mill.isE k))∧w=w':=by
 have t0:=Tryz.ta_intNode
 have t1:=Tryz.ta_textNode
 have t2:=Tryz.ta_boolNode
 have t3:=Tryz.ta_nameNode
 have t4:=Tryz.ta_unNode
 have t5:=Tryz.ta_binNode
 have t6:=Tryz.ta_callNode
 have t7:=Tryz.ta_builtNode
 have t8:=Tryz.ta_convNode
 rcases Mill.kind24 k h1 h2 with rfl | rfl | rfl | rfl | rfl | rfl | rfl | rfl | rfl | rfl | rfl | rfl | rfl | rfl | rfl | rfl | rfl | rfl | rfl | rfl | rfl | rfl | rfl | rfl
 all_goals
  simp only [Mill.ty]
  simp (decide:=true) only [if_true,if_false]
  go_enter Tryz.func122,Tryz.ntmps122
  go_wp2
  go_ret
  exact ⟨by rfl,rfl⟩
theorem isStatement_ty (k:Int) (h1:1≤k) (h2:k≤24) (x:Value) (w:World) :
  Calls Tryz.prog 106 #[.iface (Mill.ty k) x] w fun e w'=>e = .returned (.bool (Mill.isS k))∧w=w':=by
 have t0:=Tryz.ta_letNode
 have t1:=Tryz.ta_setNode
 have t2:=Tryz.ta_ifNode
 have t3:=Tryz.ta_whileNode
 have t4:=Tryz.ta_breakNode
 have t5:=Tryz.ta_continueNode
 have t6:=Tryz.ta_returnNode
 have t7:=Tryz.ta_failNode
 have t8:=Tryz.ta_writeNode
 have t9:=Tryz.ta_sayNode
 have t10:=Tryz.ta_doNode
 rcases Mill.kind24 k h1 h2 with rfl | rfl | rfl | rfl | rfl | rfl | rfl | rfl | rfl | rfl | rfl | rfl | rfl | rfl | rfl | rfl | rfl | rfl | rfl | rfl | rfl | rfl | rfl | rfl
 all_goals
  simp only [Mill.ty]
  simp (decide:=true) only [if_true,if_false]
  go_enter Tryz.func106,Tryz.ntmps106
  go_wp2
  go_ret
  exact ⟨by rfl,rfl⟩
end Go.Proofs.YtlcckaffhnjneaaGreatDoor
