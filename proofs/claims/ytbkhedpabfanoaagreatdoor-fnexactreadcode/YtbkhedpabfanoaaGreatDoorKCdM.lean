import Derived.Test.YtbkhedpabfanoaaGreatDoorKCdL
namespace Go.Proofs.YtbkhedpabfanoaaGreatDoor
open Go.RowKit

set_option maxRecDepth 100000 in
set_option maxHeartbeats 1000000 in
theorem Cd.gives_9fC (c:List Cd.Fn) (f:Cd.Fn) (a n:Int) (text:ByteArray) (s k:List Int) (m:Nat) (ca ia sa ka:Option Addr) (cc ic sc kc:Nat) (pv:Value) (_hcl:c.length≤60) (_hil:f.ins.length≤50000) (_hsl:s.length≤200) (hkl:k.length=m+2) (hk600:k.length≤600) (ha0:0≤a) (ha1:a < (c.length:Int)) (hpl:∀ g ∈ c,g.params.length≤8) (hfew:k.length < (c.getD a.toNat Cd.noFn).params.length) (w:World) (hC:Cd.CodeAt w.heap.size w (.slice ca c.length cc) c) (hS:Cd.IntsAt w.heap.size w (.slice sa s.length sc) s) (hK:Cd.IntsAt w.heap.size w (.slice ka k.length kc) k) :
    Calls Tryz.prog 65 #[.agg #[.slice ca c.length cc],Cd.fnV f pv (.slice ia f.ins.length ic),Cd.insV ⟨9,a,n,text⟩,Cd.shV 1 (.slice sa s.length sc) (.slice ka k.length kc)] w (Cd.GivesIs c f ⟨9,a,n,text⟩ s k w):=by
  obtain ⟨Y1,Y2,Y3,Z,hY1,hY2,hY3,hZ,hs1,hs2,hs3,hbZ,HZs,zc,zf,zi0,zi1,zs1,zs2,HSZ,HKZ⟩:=Cd.pre4 c f 9 a n text s k ca ia sa ka cc ic sc kc pv w hS hK
  clear hS hK
  obtain ⟨y,hy⟩:∃ y,k[m]'(by omega)=y:=⟨_,rfl⟩
  obtain ⟨x,hx⟩:∃ x,k[m+1]'(by omega)=x:=⟨_,rfl⟩
  have HT:Hid (Cd.top k=x):=by
    rw [Hid,Cd.top,List.getLast?_eq_getElem?,hkl,show m+2 - 1=m+1 by omega,List.getElem?_eq_getElem (by omega),hx];rfl
  have HBL:Hid (Cd.below k=y):=by
    rw [Hid,Cd.below,List.getLast?_eq_getElem?,List.length_take,hkl,show min (m+2 - 1) (m+2) - 1=m by omega,List.getElem?_take_of_lt (by omega),List.getElem?_eq_getElem (by omega),hy];rfl
  obtain ⟨gk,ok,rfl,_,ky,kx⟩:∃ g o,ka=some ⟨g,o,none⟩∧g < w.heap.size∧Z.cell? ⟨g,o+m,none⟩=some (.int .i64 y)∧Z.cell? ⟨g,o+(m+1),none⟩=some (.int .i64 x):=by
    obtain ⟨a',cp,he,hc⟩:=HKZ.out
    injection he with e1
    subst e1
    obtain ⟨g,o,ha,hg,c1⟩:=hc m (by omega)
    obtain ⟨g2,o2,ha2,hg2,c2⟩:=hc (m+1) (by omega)
    rw [ha] at ha2
    injection ha2 with e;injection e with e1 e2
    subst e1 e2
    exact ⟨g,o,ha,hg,by rw [c1,hy],by rw [c2,hx]⟩
  have HLEN:Hid (k.length=m+2):=hkl
  rw [HLEN.out] at hfew hZ zs2 hk600 HKZ ⊢
  clear hkl hx hy
  have hw1:wrap64 ((m:Int)+2 - 1)=(m:Int)+1:=by rw [IntWalk.wrap64_in _ (by omega)];omega
  have hw2:wrap64 ((m:Int)+2 - 2)=(m:Int):=by rw [IntWalk.wrap64_in _ (by omega)];omega
  obtain ⟨j,rfl⟩:∃ j:Nat,a=(j:Int):=⟨a.toNat,by omega⟩
  have hj:j < c.length:=by omega
  obtain ⟨gc,cap',pa,pc,ia2,ic2,hv,hgc,c0,c1,c2,c3,c4,hP,_⟩:=(hC.below hbZ).fn j hj
  obtain ⟨rfl,rfl⟩:ca=some ⟨gc,0,none⟩∧cc=cap':=by injection hv with e1 e2 e3;exact ⟨e1,e3⟩
  obtain ⟨f2,HF2⟩:∃ f2,Hid (c[j]=f2):=⟨_,(rfl:c[j]=_)⟩
  rw [HF2.out] at c0 c1 c2 c3 c4 hP
  have hp8:f2.params.length≤8:=by rw [← HF2.out];exact hpl _ (List.getElem_mem hj)
  clear hpl
  have HGD:Hid (c.getD j Cd.noFn=f2):=by rw [Hid,List.getD_eq_getElem?_getD,List.getElem?_eq_getElem hj,HF2.out];rfl
  have HPZ:Hid (Cd.IntsAt w.heap.size Z (.slice pa f2.params.length pc) f2.params):=hP
  obtain ⟨q,HQ⟩:∃ q,Hid (f2.params.length=q):=⟨_,(rfl:f2.params.length=_)⟩
  rw [HQ.out] at c1 hp8 HPZ
  clear hP hv
  obtain ⟨Z2,hZ2⟩:∃ Y,Z.alloc (.cells #[.string f2.name,.slice pa q pc,.int .i64 f2.result,.int .i64 f2.slots,.slice ia2 f2.ins.length ic2] 37)=Y:=⟨_,rfl⟩
  have hbZ2:Below w.heap.size w Z2:=by rw [← hZ2];exact Cd.Below.new hbZ _
  have HZ2s:Hid (Z2.heap.size=Z.heap.size+1):=by rw [Hid,← hZ2];exact World.size_alloc _ _
  have y1:Z2.cell? ⟨Z.heap.size,1,none⟩=some (.slice pa q pc):=by rw [← hZ2];exact Cd.new_cell Z _ _ 1 _ rfl
  have y2:Z2.cell? ⟨Z.heap.size,2,none⟩=some (.int .i64 f2.result):=by rw [← hZ2];exact Cd.new_cell Z _ _ 2 _ rfl
  have hfq:m+2 < q:=by simpa only [HGD.out,HQ.out,Int.toNat_natCast] using hfew
  clear hfew
  have HG:Hid (Cd.gives c f ⟨9,(j:Int),n,text⟩ s k=(0,[],false)):=by
    simp only [Hid,Cd.gives]
    rw [if_neg (by decide),if_neg (by decide),if_neg (by decide),if_neg (by decide),if_neg (by decide),if_neg (by decide),if_neg (by decide),if_pos (by decide)]
    show (if (k:List Int).length < (c.getD (Int.toNat (j:Int)) Cd.noFn).params.length then _ else _)=_
    simp only [Int.toNat_natCast,HGD.out,HQ.out]
    rw [if_pos (by rw [HLEN.out];exact hfq)]
  unfold Cd.GivesIs
  rw [HG.out]
  unfold Cd.fnV Cd.insV Cd.shV
  clear HG HSZ HT HBL
  go_enter Tryz.func65,Tryz.ntmps65
  go_wp2_with fail
  all_goals go_ret3
  all_goals exact ⟨⟨.slice (some ⟨Z2.heap.size,0,none⟩) 0 0,by (first | rfl | (simp;done) | (simp [*];done) | (simp_all;done) | (simp;omega)),Cd.IntsAt.newZ (Z:=Z2) (hs:=[]) _ _ rfl⟩,by first | exact Cd.Below.new hbZ2 _ | exact Below.drew (Cd.Below.new hbZ2 _)⟩
set_option maxRecDepth 100000 in
set_option maxHeartbeats 1000000 in
theorem Cd.gives_9C (c:List Cd.Fn) (f:Cd.Fn) (a n:Int) (text:ByteArray) (s k:List Int) (m:Nat) (ca ia sa ka:Option Addr) (cc ic sc kc:Nat) (pv:Value) (_hcl:c.length≤60) (_hil:f.ins.length≤50000) (_hsl:s.length≤200) (hkl:k.length=m+2) (hk600:k.length≤600) (ha0:0≤a) (ha1:a < (c.length:Int)) (hpl:∀ g ∈ c,g.params.length≤8) (hfew:(c.getD a.toNat Cd.noFn).params.length≤k.length) (w:World) (hC:Cd.CodeAt w.heap.size w (.slice ca c.length cc) c) (hS:Cd.IntsAt w.heap.size w (.slice sa s.length sc) s) (hK:Cd.IntsAt w.heap.size w (.slice ka k.length kc) k) :
    Calls Tryz.prog 65 #[.agg #[.slice ca c.length cc],Cd.fnV f pv (.slice ia f.ins.length ic),Cd.insV ⟨9,a,n,text⟩,Cd.shV 1 (.slice sa s.length sc) (.slice ka k.length kc)] w (Cd.GivesIs c f ⟨9,a,n,text⟩ s k w):=by
  obtain ⟨Y1,Y2,Y3,Z,hY1,hY2,hY3,hZ,hs1,hs2,hs3,hbZ,HZs,zc,zf,zi0,zi1,zs1,zs2,HSZ,HKZ⟩:=Cd.pre4 c f 9 a n text s k ca ia sa ka cc ic sc kc pv w hS hK
  clear hS hK
  obtain ⟨y,hy⟩:∃ y,k[m]'(by omega)=y:=⟨_,rfl⟩
  obtain ⟨x,hx⟩:∃ x,k[m+1]'(by omega)=x:=⟨_,rfl⟩
  have HT:Hid (Cd.top k=x):=by
    rw [Hid,Cd.top,List.getLast?_eq_getElem?,hkl,show m+2 - 1=m+1 by omega,List.getElem?_eq_getElem (by omega),hx];rfl
  have HBL:Hid (Cd.below k=y):=by
    rw [Hid,Cd.below,List.getLast?_eq_getElem?,List.length_take,hkl,show min (m+2 - 1) (m+2) - 1=m by omega,List.getElem?_take_of_lt (by omega),List.getElem?_eq_getElem (by omega),hy];rfl
  obtain ⟨gk,ok,rfl,_,ky,kx⟩:∃ g o,ka=some ⟨g,o,none⟩∧g < w.heap.size∧Z.cell? ⟨g,o+m,none⟩=some (.int .i64 y)∧Z.cell? ⟨g,o+(m+1),none⟩=some (.int .i64 x):=by
    obtain ⟨a',cp,he,hc⟩:=HKZ.out
    injection he with e1
    subst e1
    obtain ⟨g,o,ha,hg,c1⟩:=hc m (by omega)
    obtain ⟨g2,o2,ha2,hg2,c2⟩:=hc (m+1) (by omega)
    rw [ha] at ha2
    injection ha2 with e;injection e with e1 e2
    subst e1 e2
    exact ⟨g,o,ha,hg,by rw [c1,hy],by rw [c2,hx]⟩
  have HLEN:Hid (k.length=m+2):=hkl
  rw [HLEN.out] at hfew hZ zs2 hk600 HKZ ⊢
  clear hkl hx hy
  have hw1:wrap64 ((m:Int)+2 - 1)=(m:Int)+1:=by rw [IntWalk.wrap64_in _ (by omega)];omega
  have hw2:wrap64 ((m:Int)+2 - 2)=(m:Int):=by rw [IntWalk.wrap64_in _ (by omega)];omega
  obtain ⟨j,rfl⟩:∃ j:Nat,a=(j:Int):=⟨a.toNat,by omega⟩
  have hj:j < c.length:=by omega
  obtain ⟨gc,cap',pa,pc,ia2,ic2,hv,hgc,c0,c1,c2,c3,c4,hP,_⟩:=(hC.below hbZ).fn j hj
  obtain ⟨rfl,rfl⟩:ca=some ⟨gc,0,none⟩∧cc=cap':=by injection hv with e1 e2 e3;exact ⟨e1,e3⟩
  obtain ⟨f2,HF2⟩:∃ f2,Hid (c[j]=f2):=⟨_,(rfl:c[j]=_)⟩
  rw [HF2.out] at c0 c1 c2 c3 c4 hP
  have hp8:f2.params.length≤8:=by rw [← HF2.out];exact hpl _ (List.getElem_mem hj)
  clear hpl
  have HGD:Hid (c.getD j Cd.noFn=f2):=by rw [Hid,List.getD_eq_getElem?_getD,List.getElem?_eq_getElem hj,HF2.out];rfl
  have HPZ:Hid (Cd.IntsAt w.heap.size Z (.slice pa f2.params.length pc) f2.params):=hP
  obtain ⟨q,HQ⟩:∃ q,Hid (f2.params.length=q):=⟨_,(rfl:f2.params.length=_)⟩
  rw [HQ.out] at c1 hp8 HPZ
  clear hP hv
  obtain ⟨Z2,hZ2⟩:∃ Y,Z.alloc (.cells #[.string f2.name,.slice pa q pc,.int .i64 f2.result,.int .i64 f2.slots,.slice ia2 f2.ins.length ic2] 37)=Y:=⟨_,rfl⟩
  have hbZ2:Below w.heap.size w Z2:=by rw [← hZ2];exact Cd.Below.new hbZ _
  have HZ2s:Hid (Z2.heap.size=Z.heap.size+1):=by rw [Hid,← hZ2];exact World.size_alloc _ _
  have y1:Z2.cell? ⟨Z.heap.size,1,none⟩=some (.slice pa q pc):=by rw [← hZ2];exact Cd.new_cell Z _ _ 1 _ rfl
  have y2:Z2.cell? ⟨Z.heap.size,2,none⟩=some (.int .i64 f2.result):=by rw [← hZ2];exact Cd.new_cell Z _ _ 2 _ rfl
  have hfq:q≤m+2:=by simpa only [HGD.out,HQ.out,Int.toNat_natCast] using hfew
  clear hfew
  obtain ⟨tq,HTQ⟩:∃ t,Hid ((if (k).drop (m+2 - q)=f2.params then q else 0)=t):=⟨_,(rfl:(if (k).drop (m+2 - q)=f2.params then q else 0)=_)⟩
  obtain ⟨tl,HTL⟩:∃ t,Hid ((if (k).drop (m+2 - q)=f2.params then (if f2.result=0 then [] else [f2.result]) else ([]:List Int))=t):=⟨_,(rfl:(if (k).drop (m+2 - q)=f2.params then (if f2.result=0 then [] else [f2.result]) else ([]:List Int))=_)⟩
  obtain ⟨tb,HTB⟩:∃ t,Hid (decide ((k).drop (m+2 - q)=f2.params)=t):=⟨_,(rfl:decide ((k).drop (m+2 - q)=f2.params)=_)⟩
  have HG:Hid (Cd.gives c f ⟨9,(j:Int),n,text⟩ s k=(tq,tl,tb)):=by
    simp only [Hid,Cd.gives]
    rw [if_neg (by decide),if_neg (by decide),if_neg (by decide),if_neg (by decide),if_neg (by decide),if_neg (by decide),if_neg (by decide),if_pos (by decide)]
    show (if (k:List Int).length < (c.getD (Int.toNat (j:Int)) Cd.noFn).params.length then _ else _)=_
    simp only [Int.toNat_natCast,HGD.out,HQ.out]
    rw [if_neg (by rw [HLEN.out];omega),HLEN.out,← HTQ.out,← HTL.out,← HTB.out]
    show (if (k).drop (m+2 - q)=f2.params then _ else _)=_
    split
    · rename_i hh
      simp only [decide_eq_true hh];first | rfl | (simp [*];done) | skip
    · rename_i hh
      simp only [decide_eq_false hh];first | rfl | (simp [*];done) | skip
  unfold Cd.GivesIs
  rw [HG.out]
  unfold Cd.fnV Cd.insV Cd.shV
  clear HG HSZ HT HBL
  go_enter Tryz.func65,Tryz.ntmps65
  have hd0:decide ((0:Int) < (m:Int)+2)=true:=by simp;omega
  have hd1:decide ((1:Int) < (m:Int)+2)=true:=by simp;omega
  have hm21:m+2 - 1=m+1:=rfl
  obtain ⟨r,hr⟩:∃ r,m+2=r+q:=⟨m+2 - q,by omega⟩
  have hw3:wrap64 ((m:Int)+2 - (q:Int))=(r:Int):=by rw [IntWalk.wrap64_in _ (by omega)];omega
  have hw4:IntKind.i64.wrap ((m:Int)+2 - (q:Int))=(r:Int):=by rw [IntWalk.i64_left];exact hw3
  have HR8:Hid (m+2=r+q):=hr
  have HRQ:Hid (r=m+2 - q):=by rw [Hid];omega
  clear hr
  have HKC:Hid (∀ i,i < q→∃ g1 o1 y1,((some ⟨gk,ok,none⟩):Option Addr)=some ⟨g1,o1,none⟩∧g1 < w.heap.size∧Z2.cell? ⟨g1,o1+(r+i),none⟩=some (.int .i64 y1)∧((k).drop r)[i]? = some y1):=fun i hi=>by
    obtain ⟨a',cp,he,hc⟩:=HKZ.out
    injection he with e1
    subst e1
    have hl:r+i < (k).length:=by have:=HR8.out;have:=HLEN.out;omega
    obtain ⟨g,o,ha,hg,hcell⟩:=hc (r+i) hl
    refine ⟨g,o,(k)[r+i],ha,hg, ?_,by rw [List.getElem?_drop,List.getElem?_eq_getElem hl]⟩
    rw [← hZ2,Below.cell (Cd.b1 Z _) (p:=⟨g,o+(r+i),none⟩) (by show g < _;have:=HZs.out;omega)];exact hcell
  have HPC:Hid (∀ i (hi:i < f2.params.length),∃ gp op,pa=some ⟨gp,op,none⟩∧gp < w.heap.size∧Z2.cell? ⟨gp,op+i,none⟩=some (.int .i64 f2.params[i])):=fun i hi=>by
    obtain ⟨a',cp,he,hc⟩:=HPZ.out
    injection he with e1
    subst e1
    obtain ⟨g,o,ha,hg,hcell⟩:=hc i hi
    refine ⟨g,o,ha,hg, ?_⟩
    rw [← hZ2,Below.cell (Cd.b1 Z _) (p:=⟨g,o+i,none⟩) (by show g < _;have:=HZs.out;omega)];exact hcell
  have HLL:Hid (((k).drop r).length=q):=by rw [Hid,List.length_drop,HLEN.out];have:=HR8.out;omega
  have z32:Z2.cell? ⟨w.heap.size+3,2,none⟩=some (.slice (some ⟨gk,ok,none⟩) (m+2) kc):=by rw [← hZ2,Below.cell (Cd.b1 Z _) (p:=⟨w.heap.size+3,2,none⟩) (by show w.heap.size+3 < _;have:=HZs.out;omega)];exact zs2
  clear HKZ HPZ
  go_wp2_with fail
  go_loopw [21] (fun t wr => ∃ i qd:Nat,i≤q∧t = .int .i64 (i:Int)∧wr=Z2.drewN qd∧∀ u,u < i→((k).drop r)[u]? = f2.params[u]?) (fun t _=>q - (intOf t).toNat)
  case atStart=>exact ⟨0,0,by omega,rfl,rfl,fun u hu=>by omega⟩
  case round =>
    obtain ⟨i,qd,hi,rfl,hqd,hu⟩:=hrel
    have HQD:Hid (wr=Z2.drewN qd):=hqd
    clear hqd
    have hbR:Below w.heap.size w wr:=by rw [HQD.out];exact Cd.belowD _ hbZ2
    have y19:wr.cell? ⟨Z.heap.size,1,none⟩=some (.slice pa q pc):=by rw [HQD.out];exact y1
    have y29:wr.cell? ⟨Z.heap.size,2,none⟩=some (.int .i64 f2.result):=by rw [HQD.out];exact y2
    have zs9:wr.cell? ⟨w.heap.size+3,2,none⟩=some (.slice (some ⟨gk,ok,none⟩) (m+2) kc):=by rw [HQD.out];exact z32
    by_cases hlt:i < q
    · obtain ⟨g1,o1,yv,hb1,hg1,kcell,hdy⟩:=HKC.out i hlt
      obtain ⟨rfl,rfl⟩:gk=g1∧ok=o1:=by injection hb1 with e;injection e with e1 e2;exact ⟨e1,e2⟩
      have hip:i < f2.params.length:=by rw [HQ.out];exact hlt
      obtain ⟨gp,op,rfl,hgp,pcell⟩:=HPC.out i hip
      have k9:wr.cell? ⟨gk,ok+(r+i),none⟩=some (.int .i64 yv):=by rw [HQD.out];exact kcell
      have p9:wr.cell? ⟨gp,op+i,none⟩=some (.int .i64 f2.params[i]):=by rw [HQD.out];exact pcell
      have hri:(r:Int)+(i:Int) < (m:Int)+2:=by have:=HR8.out;omega
      have hw5:wrap64 ((r:Int)+(i:Int))=(r:Int)+(i:Int):=IntWalk.wrap64_in _ (by omega)
      have hw6:IntKind.i64.wrap ((r:Int)+(i:Int))=(r:Int)+(i:Int):=by rw [IntWalk.i64_left];exact hw5
      have hri0:(0:Int)≤(r:Int)+(i:Int):=Int.add_nonneg (Int.natCast_nonneg r) (Int.natCast_nonneg i)
      have htn:((r:Int)+(i:Int)).toNat=r+i:=by rw [← Int.natCast_add,Int.toNat_natCast]
      have hiq:(i:Int) < (q:Int):=Int.ofNat_lt.2 hlt
      by_cases he:yv=f2.params[i]
      · have HU:Hid (∀ u,u < i+1→((k).drop r)[u]? = f2.params[u]?):=fun u h=>by
          by_cases e:u=i
          · subst e;rw [hdy,List.getElem?_eq_getElem hip,he]
          · exact hu u (by omega)
        clear hu kcell pcell hdy
        subst he
        generalize f2.params[i]=pi at *
        have hnb:(pi != pi)=false:=by simp
        go_wp2_with fail
        go_quiet (fail)
        clear hw3 hw4 hw5 hw6 hri hri0 htn hw1 hw2
        go_wp2_with fail
        refine ⟨⟨_,_,_,.int .i64 ((i:Int)+1),_,_,_,_,_,_,_,_,_,_,_,_,_,_,_,_,_,_,_,_,_,⟨i+1,_,by omega,by go_num,by rw [HQD.out,World.drewN_drewN],HU.out⟩,rfl⟩,by simp [intOf];omega⟩
      · have HNE:Hid (¬ (k).drop (m+2 - q)=f2.params):=fun e=>he (by rw [← HRQ.out] at e;rw [e,List.getElem?_eq_getElem hip] at hdy;injection hdy with h;exact h.symm)
        have hnb:(yv != f2.params[i])=true:=by simp [he]
        generalize f2.params[i]=pi at *
        clear hu kcell pcell hdy he
        go_wp2_with fail
        go_quiet (fail)
        go_wp2_with fail
        all_goals go_ret3
        all_goals rw [← HTQ.out,← HTL.out,← HTB.out,if_neg HNE.out,if_neg HNE.out,decide_eq_false HNE.out]
        all_goals exact ⟨⟨.slice (some ⟨wr.heap.size,0,none⟩) 0 0,by (first | rfl | (simp;done) | (simp [*];done) | (simp_all;done) | (simp;omega)),Cd.IntsAt.newZ (Z:=wr) (hs:=[]) _ _ rfl⟩,by first | exact Cd.Below.new hbR _ | exact Below.drew (Cd.Below.new hbR _) | exact Cd.belowD _ (Cd.Below.new hbR _) | exact Cd.Below.new (Cd.belowD _ hbR) _⟩
    · have hyes:(k).drop r=f2.params:=by
        refine List.ext_getElem? (fun u => ?_)
        by_cases h:u < q
        · exact hu u (by omega)
        · rw [List.getElem?_eq_none (by rw [HLL.out];omega),List.getElem?_eq_none (by rw [HQ.out];omega)]
      have HY:Hid ((k).drop (m+2 - q)=f2.params):=by rw [Hid,← HRQ.out];exact hyes
      clear hu hyes
      by_cases hres:f2.result=0
      · have hrb:(f2.result == 0)=true:=by simp [hres]
        go_wp2_with fail
        all_goals go_ret3
        all_goals rw [← HTQ.out,← HTL.out,← HTB.out,if_pos HY.out,if_pos HY.out,if_pos hres,decide_eq_true HY.out]
        all_goals exact ⟨⟨.slice (some ⟨wr.heap.size,0,none⟩) 0 0,by (first | rfl | (simp;done) | (simp [*];done) | (simp_all;done) | (simp;omega)),Cd.IntsAt.newZ (Z:=wr) (hs:=[]) _ _ rfl⟩,by first | exact Cd.Below.new hbR _ | exact Below.drew (Cd.Below.new hbR _)⟩
      · have hrb:(f2.result == 0)=false:=by simp [hres]
        have S0:wr.cell? ⟨Z.heap.size,2,none⟩=some (.int .i64 f2.result):=y29
        have S1:wr.drew.cell? ⟨Z.heap.size,2,none⟩=some (.int .i64 f2.result):=y29
        have hzl:Z.heap.size < wr.heap.size:=by rw [HQD.out];show Z.heap.size < Z2.heap.size;have:=HZ2s.out;omega
        have S2:∀ o:Obj,(wr.alloc o).cell? ⟨Z.heap.size,2,none⟩=some (.int .i64 f2.result):=fun o=>((Cd.b1 wr o).cell (p:=⟨Z.heap.size,2,none⟩) hzl).trans y29
        have S3:∀ o:Obj,(wr.drew.alloc o).cell? ⟨Z.heap.size,2,none⟩=some (.int .i64 f2.result):=fun o=>S2 o
        have S4:∀ o:Obj,(wr.alloc o).drew.cell? ⟨Z.heap.size,2,none⟩=some (.int .i64 f2.result):=fun o=>S2 o
        clear hzl
        go_wp2_with fail
        go_region_held3 (fun w'=>w'.cell? ⟨Z.heap.size,2,none⟩=some (.int .i64 f2.result)) (with_reducible first | exact S0 | exact S1 | exact S2 _ | exact S3 _ | exact S4 _) (fail)
        all_goals go_wp2_with fail
        all_goals go_ret3
        all_goals rw [← HTQ.out,← HTL.out,← HTB.out,if_pos HY.out,if_pos HY.out,if_neg hres,decide_eq_true HY.out]
        all_goals exact ⟨⟨.slice (some ⟨wr.heap.size,0,none⟩) 1 1,by (first | rfl | (simp;done) | (simp [*];done) | (simp_all;done) | (simp;omega)),Cd.IntsAt.newZ (Z:=wr) (hs:=[f2.result]) _ _ rfl⟩,by first | exact Cd.Below.new hbR _ | exact Below.drew (Cd.Below.new hbR _)⟩
set_option maxRecDepth 100000 in
set_option maxHeartbeats 1000000 in
theorem Cd.gives_9fB (c:List Cd.Fn) (f:Cd.Fn) (a n:Int) (text:ByteArray) (s k:List Int) (ca ia sa ka:Option Addr) (cc ic sc kc:Nat) (pv:Value) (_hcl:c.length≤60) (_hil:f.ins.length≤50000) (_hsl:s.length≤200) (hkl:k.length=1) (hk600:k.length≤600) (ha0:0≤a) (ha1:a < (c.length:Int)) (hpl:∀ g ∈ c,g.params.length≤8) (hfew:k.length < (c.getD a.toNat Cd.noFn).params.length) (w:World) (hC:Cd.CodeAt w.heap.size w (.slice ca c.length cc) c) (hS:Cd.IntsAt w.heap.size w (.slice sa s.length sc) s) (hK:Cd.IntsAt w.heap.size w (.slice ka k.length kc) k) :
    Calls Tryz.prog 65 #[.agg #[.slice ca c.length cc],Cd.fnV f pv (.slice ia f.ins.length ic),Cd.insV ⟨9,a,n,text⟩,Cd.shV 1 (.slice sa s.length sc) (.slice ka k.length kc)] w (Cd.GivesIs c f ⟨9,a,n,text⟩ s k w):=by
  obtain ⟨Y1,Y2,Y3,Z,hY1,hY2,hY3,hZ,hs1,hs2,hs3,hbZ,HZs,zc,zf,zi0,zi1,zs1,zs2,HSZ,HKZ⟩:=Cd.pre4 c f 9 a n text s k ca ia sa ka cc ic sc kc pv w hS hK
  clear hS hK
  obtain ⟨x,rfl⟩:∃ x,k=[x]:=by
    cases k with
    | nil=>simp at hkl
    | cons x r=>cases r with
      | nil=>exact ⟨x,rfl⟩
      | cons y q=>simp at hkl
  have HT:Hid (Cd.top [x]=x):=(rfl:Cd.top [x]=x)
  have HBL:Hid (Cd.below [x]=0):=(rfl:Cd.below [x]=0)
  obtain ⟨gk,ok,rfl,_,kx⟩:∃ g o,ka=some ⟨g,o,none⟩∧g < w.heap.size∧Z.cell? ⟨g,o,none⟩=some (.int .i64 x):=by
    obtain ⟨a',cp,he,hc⟩:=HKZ.out
    injection he with e1
    subst e1
    exact hc 0 (by simp)
  simp only [List.length_cons,List.length_nil,Nat.zero_add] at hfew hZ zs2 hk600 HKZ ⊢
  obtain ⟨j,rfl⟩:∃ j:Nat,a=(j:Int):=⟨a.toNat,by omega⟩
  have hj:j < c.length:=by omega
  obtain ⟨gc,cap',pa,pc,ia2,ic2,hv,hgc,c0,c1,c2,c3,c4,hP,_⟩:=(hC.below hbZ).fn j hj
  obtain ⟨rfl,rfl⟩:ca=some ⟨gc,0,none⟩∧cc=cap':=by injection hv with e1 e2 e3;exact ⟨e1,e3⟩
  obtain ⟨f2,HF2⟩:∃ f2,Hid (c[j]=f2):=⟨_,(rfl:c[j]=_)⟩
  rw [HF2.out] at c0 c1 c2 c3 c4 hP
  have hp8:f2.params.length≤8:=by rw [← HF2.out];exact hpl _ (List.getElem_mem hj)
  clear hpl
  have HGD:Hid (c.getD j Cd.noFn=f2):=by rw [Hid,List.getD_eq_getElem?_getD,List.getElem?_eq_getElem hj,HF2.out];rfl
  have HPZ:Hid (Cd.IntsAt w.heap.size Z (.slice pa f2.params.length pc) f2.params):=hP
  obtain ⟨q,HQ⟩:∃ q,Hid (f2.params.length=q):=⟨_,(rfl:f2.params.length=_)⟩
  rw [HQ.out] at c1 hp8 HPZ
  clear hP hv
  obtain ⟨Z2,hZ2⟩:∃ Y,Z.alloc (.cells #[.string f2.name,.slice pa q pc,.int .i64 f2.result,.int .i64 f2.slots,.slice ia2 f2.ins.length ic2] 37)=Y:=⟨_,rfl⟩
  have hbZ2:Below w.heap.size w Z2:=by rw [← hZ2];exact Cd.Below.new hbZ _
  have HZ2s:Hid (Z2.heap.size=Z.heap.size+1):=by rw [Hid,← hZ2];exact World.size_alloc _ _
  have y1:Z2.cell? ⟨Z.heap.size,1,none⟩=some (.slice pa q pc):=by rw [← hZ2];exact Cd.new_cell Z _ _ 1 _ rfl
  have y2:Z2.cell? ⟨Z.heap.size,2,none⟩=some (.int .i64 f2.result):=by rw [← hZ2];exact Cd.new_cell Z _ _ 2 _ rfl
  have hfq:1 < q:=by simpa only [HGD.out,HQ.out,Int.toNat_natCast] using hfew
  clear hfew
  have HG:Hid (Cd.gives c f ⟨9,(j:Int),n,text⟩ s [x]=(0,[],false)):=by
    simp only [Hid,Cd.gives]
    rw [if_neg (by decide),if_neg (by decide),if_neg (by decide),if_neg (by decide),if_neg (by decide),if_neg (by decide),if_neg (by decide),if_pos (by decide)]
    show (if ([x]:List Int).length < (c.getD (Int.toNat (j:Int)) Cd.noFn).params.length then _ else _)=_
    simp only [Int.toNat_natCast,HGD.out,HQ.out]
    rw [if_pos (by rw [(rfl:[x].length=1)];exact hfq)]
  unfold Cd.GivesIs
  rw [HG.out]
  unfold Cd.fnV Cd.insV Cd.shV
  clear HG HSZ HT HBL
  go_enter Tryz.func65,Tryz.ntmps65
  go_wp2_with fail
  all_goals go_ret3
  all_goals exact ⟨⟨.slice (some ⟨Z2.heap.size,0,none⟩) 0 0,by (first | rfl | (simp;done) | (simp [*];done) | (simp_all;done) | (simp;omega)),Cd.IntsAt.newZ (Z:=Z2) (hs:=[]) _ _ rfl⟩,by first | exact Cd.Below.new hbZ2 _ | exact Below.drew (Cd.Below.new hbZ2 _)⟩
set_option maxRecDepth 100000 in
set_option maxHeartbeats 1000000 in
theorem Cd.gives_9B (c:List Cd.Fn) (f:Cd.Fn) (a n:Int) (text:ByteArray) (s k:List Int) (ca ia sa ka:Option Addr) (cc ic sc kc:Nat) (pv:Value) (_hcl:c.length≤60) (_hil:f.ins.length≤50000) (_hsl:s.length≤200) (hkl:k.length=1) (hk600:k.length≤600) (ha0:0≤a) (ha1:a < (c.length:Int)) (hpl:∀ g ∈ c,g.params.length≤8) (hfew:(c.getD a.toNat Cd.noFn).params.length≤k.length) (w:World) (hC:Cd.CodeAt w.heap.size w (.slice ca c.length cc) c) (hS:Cd.IntsAt w.heap.size w (.slice sa s.length sc) s) (hK:Cd.IntsAt w.heap.size w (.slice ka k.length kc) k) :
    Calls Tryz.prog 65 #[.agg #[.slice ca c.length cc],Cd.fnV f pv (.slice ia f.ins.length ic),Cd.insV ⟨9,a,n,text⟩,Cd.shV 1 (.slice sa s.length sc) (.slice ka k.length kc)] w (Cd.GivesIs c f ⟨9,a,n,text⟩ s k w):=by
  obtain ⟨Y1,Y2,Y3,Z,hY1,hY2,hY3,hZ,hs1,hs2,hs3,hbZ,HZs,zc,zf,zi0,zi1,zs1,zs2,HSZ,HKZ⟩:=Cd.pre4 c f 9 a n text s k ca ia sa ka cc ic sc kc pv w hS hK
  clear hS hK
  obtain ⟨x,rfl⟩:∃ x,k=[x]:=by
    cases k with
    | nil=>simp at hkl
    | cons x r=>cases r with
      | nil=>exact ⟨x,rfl⟩
      | cons y q=>simp at hkl
  have HT:Hid (Cd.top [x]=x):=(rfl:Cd.top [x]=x)
  have HBL:Hid (Cd.below [x]=0):=(rfl:Cd.below [x]=0)
  obtain ⟨gk,ok,rfl,_,kx⟩:∃ g o,ka=some ⟨g,o,none⟩∧g < w.heap.size∧Z.cell? ⟨g,o,none⟩=some (.int .i64 x):=by
    obtain ⟨a',cp,he,hc⟩:=HKZ.out
    injection he with e1
    subst e1
    exact hc 0 (by simp)
  simp only [List.length_cons,List.length_nil,Nat.zero_add] at hfew hZ zs2 hk600 HKZ ⊢
  obtain ⟨j,rfl⟩:∃ j:Nat,a=(j:Int):=⟨a.toNat,by omega⟩
  have hj:j < c.length:=by omega
  obtain ⟨gc,cap',pa,pc,ia2,ic2,hv,hgc,c0,c1,c2,c3,c4,hP,_⟩:=(hC.below hbZ).fn j hj
  obtain ⟨rfl,rfl⟩:ca=some ⟨gc,0,none⟩∧cc=cap':=by injection hv with e1 e2 e3;exact ⟨e1,e3⟩
  obtain ⟨f2,HF2⟩:∃ f2,Hid (c[j]=f2):=⟨_,(rfl:c[j]=_)⟩
  rw [HF2.out] at c0 c1 c2 c3 c4 hP
  have hp8:f2.params.length≤8:=by rw [← HF2.out];exact hpl _ (List.getElem_mem hj)
  clear hpl
  have HGD:Hid (c.getD j Cd.noFn=f2):=by rw [Hid,List.getD_eq_getElem?_getD,List.getElem?_eq_getElem hj,HF2.out];rfl
  have HPZ:Hid (Cd.IntsAt w.heap.size Z (.slice pa f2.params.length pc) f2.params):=hP
  obtain ⟨q,HQ⟩:∃ q,Hid (f2.params.length=q):=⟨_,(rfl:f2.params.length=_)⟩
  rw [HQ.out] at c1 hp8 HPZ
  clear hP hv
  obtain ⟨Z2,hZ2⟩:∃ Y,Z.alloc (.cells #[.string f2.name,.slice pa q pc,.int .i64 f2.result,.int .i64 f2.slots,.slice ia2 f2.ins.length ic2] 37)=Y:=⟨_,rfl⟩
  have hbZ2:Below w.heap.size w Z2:=by rw [← hZ2];exact Cd.Below.new hbZ _
  have HZ2s:Hid (Z2.heap.size=Z.heap.size+1):=by rw [Hid,← hZ2];exact World.size_alloc _ _
  have y1:Z2.cell? ⟨Z.heap.size,1,none⟩=some (.slice pa q pc):=by rw [← hZ2];exact Cd.new_cell Z _ _ 1 _ rfl
  have y2:Z2.cell? ⟨Z.heap.size,2,none⟩=some (.int .i64 f2.result):=by rw [← hZ2];exact Cd.new_cell Z _ _ 2 _ rfl
  have hfq:q≤1:=by simpa only [HGD.out,HQ.out,Int.toNat_natCast] using hfew
  clear hfew
  obtain ⟨tq,HTQ⟩:∃ t,Hid ((if ([x]).drop (1 - q)=f2.params then q else 0)=t):=⟨_,(rfl:(if ([x]).drop (1 - q)=f2.params then q else 0)=_)⟩
  obtain ⟨tl,HTL⟩:∃ t,Hid ((if ([x]).drop (1 - q)=f2.params then (if f2.result=0 then [] else [f2.result]) else ([]:List Int))=t):=⟨_,(rfl:(if ([x]).drop (1 - q)=f2.params then (if f2.result=0 then [] else [f2.result]) else ([]:List Int))=_)⟩
  obtain ⟨tb,HTB⟩:∃ t,Hid (decide (([x]).drop (1 - q)=f2.params)=t):=⟨_,(rfl:decide (([x]).drop (1 - q)=f2.params)=_)⟩
  have HG:Hid (Cd.gives c f ⟨9,(j:Int),n,text⟩ s [x]=(tq,tl,tb)):=by
    simp only [Hid,Cd.gives]
    rw [if_neg (by decide),if_neg (by decide),if_neg (by decide),if_neg (by decide),if_neg (by decide),if_neg (by decide),if_neg (by decide),if_pos (by decide)]
    show (if ([x]:List Int).length < (c.getD (Int.toNat (j:Int)) Cd.noFn).params.length then _ else _)=_
    simp only [Int.toNat_natCast,HGD.out,HQ.out]
    rw [if_neg (by rw [(rfl:[x].length=1)];omega),(rfl:[x].length=1),← HTQ.out,← HTL.out,← HTB.out]
    show (if ([x]).drop (1 - q)=f2.params then _ else _)=_
    split
    · rename_i hh
      simp only [decide_eq_true hh];first | rfl | (simp [*];done) | skip
    · rename_i hh
      simp only [decide_eq_false hh];first | rfl | (simp [*];done) | skip
  unfold Cd.GivesIs
  rw [HG.out]
  unfold Cd.fnV Cd.insV Cd.shV
  clear HG HSZ HT HBL
  go_enter Tryz.func65,Tryz.ntmps65
  obtain ⟨r,hr⟩:∃ r,1=r+q:=⟨1 - q,by omega⟩
  have hw3:wrap64 ((1:Int) - (q:Int))=(r:Int):=by rw [IntWalk.wrap64_in _ (by omega)];omega
  have hw4:IntKind.i64.wrap ((1:Int) - (q:Int))=(r:Int):=by rw [IntWalk.i64_left];exact hw3
  have HR8:Hid (1=r+q):=hr
  have HRQ:Hid (r=1 - q):=by rw [Hid];omega
  clear hr
  have HKC:Hid (∀ i,i < q→∃ g1 o1 y1,((some ⟨gk,ok,none⟩):Option Addr)=some ⟨g1,o1,none⟩∧g1 < w.heap.size∧Z2.cell? ⟨g1,o1+(r+i),none⟩=some (.int .i64 y1)∧(([x]).drop r)[i]? = some y1):=fun i hi=>by
    obtain ⟨a',cp,he,hc⟩:=HKZ.out
    injection he with e1
    subst e1
    have hl:r+i < ([x]).length:=by have:=HR8.out;have:=(rfl:[x].length=1);omega
    obtain ⟨g,o,ha,hg,hcell⟩:=hc (r+i) hl
    refine ⟨g,o,([x])[r+i],ha,hg, ?_,by rw [List.getElem?_drop,List.getElem?_eq_getElem hl]⟩
    rw [← hZ2,Below.cell (Cd.b1 Z _) (p:=⟨g,o+(r+i),none⟩) (by show g < _;have:=HZs.out;omega)];exact hcell
  have HPC:Hid (∀ i (hi:i < f2.params.length),∃ gp op,pa=some ⟨gp,op,none⟩∧gp < w.heap.size∧Z2.cell? ⟨gp,op+i,none⟩=some (.int .i64 f2.params[i])):=fun i hi=>by
    obtain ⟨a',cp,he,hc⟩:=HPZ.out
    injection he with e1
    subst e1
    obtain ⟨g,o,ha,hg,hcell⟩:=hc i hi
    refine ⟨g,o,ha,hg, ?_⟩
    rw [← hZ2,Below.cell (Cd.b1 Z _) (p:=⟨g,o+i,none⟩) (by show g < _;have:=HZs.out;omega)];exact hcell
  have HLL:Hid ((([x]).drop r).length=q):=by rw [Hid,List.length_drop,(rfl:[x].length=1)];have:=HR8.out;omega
  have z32:Z2.cell? ⟨w.heap.size+3,2,none⟩=some (.slice (some ⟨gk,ok,none⟩) (1) kc):=by rw [← hZ2,Below.cell (Cd.b1 Z _) (p:=⟨w.heap.size+3,2,none⟩) (by show w.heap.size+3 < _;have:=HZs.out;omega)];exact zs2
  clear HKZ HPZ
  go_wp2_with fail
  go_loopw [21] (fun t wr => ∃ i qd:Nat,i≤q∧t = .int .i64 (i:Int)∧wr=Z2.drewN qd∧∀ u,u < i→(([x]).drop r)[u]? = f2.params[u]?) (fun t _=>q - (intOf t).toNat)
  case atStart=>exact ⟨0,0,by omega,rfl,rfl,fun u hu=>by omega⟩
  case round =>
    obtain ⟨i,qd,hi,rfl,hqd,hu⟩:=hrel
    have HQD:Hid (wr=Z2.drewN qd):=hqd
    clear hqd
    have hbR:Below w.heap.size w wr:=by rw [HQD.out];exact Cd.belowD _ hbZ2
    have y19:wr.cell? ⟨Z.heap.size,1,none⟩=some (.slice pa q pc):=by rw [HQD.out];exact y1
    have y29:wr.cell? ⟨Z.heap.size,2,none⟩=some (.int .i64 f2.result):=by rw [HQD.out];exact y2
    have zs9:wr.cell? ⟨w.heap.size+3,2,none⟩=some (.slice (some ⟨gk,ok,none⟩) (1) kc):=by rw [HQD.out];exact z32
    by_cases hlt:i < q
    · obtain ⟨g1,o1,yv,hb1,hg1,kcell,hdy⟩:=HKC.out i hlt
      obtain ⟨rfl,rfl⟩:gk=g1∧ok=o1:=by injection hb1 with e;injection e with e1 e2;exact ⟨e1,e2⟩
      have hip:i < f2.params.length:=by rw [HQ.out];exact hlt
      obtain ⟨gp,op,rfl,hgp,pcell⟩:=HPC.out i hip
      have k9:wr.cell? ⟨gk,ok+(r+i),none⟩=some (.int .i64 yv):=by rw [HQD.out];exact kcell
      have p9:wr.cell? ⟨gp,op+i,none⟩=some (.int .i64 f2.params[i]):=by rw [HQD.out];exact pcell
      have hri:(r:Int)+(i:Int) < (1:Int):=by have:=HR8.out;omega
      have hw5:wrap64 ((r:Int)+(i:Int))=(r:Int)+(i:Int):=IntWalk.wrap64_in _ (by omega)
      have hw6:IntKind.i64.wrap ((r:Int)+(i:Int))=(r:Int)+(i:Int):=by rw [IntWalk.i64_left];exact hw5
      have hri0:(0:Int)≤(r:Int)+(i:Int):=Int.add_nonneg (Int.natCast_nonneg r) (Int.natCast_nonneg i)
      have htn:((r:Int)+(i:Int)).toNat=r+i:=by rw [← Int.natCast_add,Int.toNat_natCast]
      have hiq:(i:Int) < (q:Int):=Int.ofNat_lt.2 hlt
      by_cases he:yv=f2.params[i]
      · have HU:Hid (∀ u,u < i+1→(([x]).drop r)[u]? = f2.params[u]?):=fun u h=>by
          by_cases e:u=i
          · subst e;rw [hdy,List.getElem?_eq_getElem hip,he]
          · exact hu u (by omega)
        clear hu kcell pcell hdy
        subst he
        generalize f2.params[i]=pi at *
        have hnb:(pi != pi)=false:=by simp
        go_wp2_with fail
        go_quiet (fail)
        clear hw3 hw4 hw5 hw6 hri hri0 htn 
        go_wp2_with fail
        go_roundw
        case rel=>exact ⟨i+1,_,by omega,by go_num,by rw [HQD.out,World.drewN_drewN],HU.out⟩
        case measure=>simp [intOf];omega
      · have HNE:Hid (¬ ([x]).drop (1 - q)=f2.params):=fun e=>he (by rw [← HRQ.out] at e;rw [e,List.getElem?_eq_getElem hip] at hdy;injection hdy with h;exact h.symm)
        have hnb:(yv != f2.params[i])=true:=by simp [he]
        generalize f2.params[i]=pi at *
        clear hu kcell pcell hdy he
        go_wp2_with fail
        go_quiet (fail)
        go_wp2_with fail
        all_goals go_ret3
        all_goals rw [← HTQ.out,← HTL.out,← HTB.out,if_neg HNE.out,if_neg HNE.out,decide_eq_false HNE.out]
        all_goals exact ⟨⟨.slice (some ⟨wr.heap.size,0,none⟩) 0 0,by (first | rfl | (simp;done) | (simp [*];done) | (simp_all;done) | (simp;omega)),Cd.IntsAt.newZ (Z:=wr) (hs:=[]) _ _ rfl⟩,by first | exact Cd.Below.new hbR _ | exact Below.drew (Cd.Below.new hbR _) | exact Cd.belowD _ (Cd.Below.new hbR _) | exact Cd.Below.new (Cd.belowD _ hbR) _⟩
    · have hyes:([x]).drop r=f2.params:=by
        refine List.ext_getElem? (fun u => ?_)
        by_cases h:u < q
        · exact hu u (by omega)
        · rw [List.getElem?_eq_none (by rw [HLL.out];omega),List.getElem?_eq_none (by rw [HQ.out];omega)]
      have HY:Hid (([x]).drop (1 - q)=f2.params):=by rw [Hid,← HRQ.out];exact hyes
      clear hu hyes
      by_cases hres:f2.result=0
      · have hrb:(f2.result == 0)=true:=by simp [hres]
        go_wp2_with fail
        all_goals go_ret3
        all_goals rw [← HTQ.out,← HTL.out,← HTB.out,if_pos HY.out,if_pos HY.out,if_pos hres,decide_eq_true HY.out]
        all_goals exact ⟨⟨.slice (some ⟨wr.heap.size,0,none⟩) 0 0,by (first | rfl | (simp;done) | (simp [*];done) | (simp_all;done) | (simp;omega)),Cd.IntsAt.newZ (Z:=wr) (hs:=[]) _ _ rfl⟩,by first | exact Cd.Below.new hbR _ | exact Below.drew (Cd.Below.new hbR _)⟩
      · have hrb:(f2.result == 0)=false:=by simp [hres]
        have S0:wr.cell? ⟨Z.heap.size,2,none⟩=some (.int .i64 f2.result):=y29
        have S1:wr.drew.cell? ⟨Z.heap.size,2,none⟩=some (.int .i64 f2.result):=y29
        have hzl:Z.heap.size < wr.heap.size:=by rw [HQD.out];show Z.heap.size < Z2.heap.size;have:=HZ2s.out;omega
        have S2:∀ o:Obj,(wr.alloc o).cell? ⟨Z.heap.size,2,none⟩=some (.int .i64 f2.result):=fun o=>((Cd.b1 wr o).cell (p:=⟨Z.heap.size,2,none⟩) hzl).trans y29
        have S3:∀ o:Obj,(wr.drew.alloc o).cell? ⟨Z.heap.size,2,none⟩=some (.int .i64 f2.result):=fun o=>S2 o
        have S4:∀ o:Obj,(wr.alloc o).drew.cell? ⟨Z.heap.size,2,none⟩=some (.int .i64 f2.result):=fun o=>S2 o
        clear hzl
        go_wp2_with fail
        go_region_held3 (fun w'=>w'.cell? ⟨Z.heap.size,2,none⟩=some (.int .i64 f2.result)) (with_reducible first | exact S0 | exact S1 | exact S2 _ | exact S3 _ | exact S4 _) (fail)
        all_goals go_wp2_with fail
        all_goals go_ret3
        all_goals rw [← HTQ.out,← HTL.out,← HTB.out,if_pos HY.out,if_pos HY.out,if_neg hres,decide_eq_true HY.out]
        all_goals exact ⟨⟨.slice (some ⟨wr.heap.size,0,none⟩) 1 1,by (first | rfl | (simp;done) | (simp [*];done) | (simp_all;done) | (simp;omega)),Cd.IntsAt.newZ (Z:=wr) (hs:=[f2.result]) _ _ rfl⟩,by first | exact Cd.Below.new hbR _ | exact Below.drew (Cd.Below.new hbR _)⟩
set_option maxRecDepth 100000 in
set_option maxHeartbeats 1000000 in
theorem Cd.gives_9fA (c:List Cd.Fn) (f:Cd.Fn) (a n:Int) (text:ByteArray) (s k:List Int) (ca ia sa ka:Option Addr) (cc ic sc kc:Nat) (pv:Value) (_hcl:c.length≤60) (_hil:f.ins.length≤50000) (_hsl:s.length≤200) (hkl:k.length=0) (hk600:k.length≤600) (ha0:0≤a) (ha1:a < (c.length:Int)) (hpl:∀ g ∈ c,g.params.length≤8) (hfew:k.length < (c.getD a.toNat Cd.noFn).params.length) (w:World) (hC:Cd.CodeAt w.heap.size w (.slice ca c.length cc) c) (hS:Cd.IntsAt w.heap.size w (.slice sa s.length sc) s) (hK:Cd.IntsAt w.heap.size w (.slice ka k.length kc) k) :
    Calls Tryz.prog 65 #[.agg #[.slice ca c.length cc],Cd.fnV f pv (.slice ia f.ins.length ic),Cd.insV ⟨9,a,n,text⟩,Cd.shV 1 (.slice sa s.length sc) (.slice ka k.length kc)] w (Cd.GivesIs c f ⟨9,a,n,text⟩ s k w):=by
  obtain ⟨Y1,Y2,Y3,Z,hY1,hY2,hY3,hZ,hs1,hs2,hs3,hbZ,HZs,zc,zf,zi0,zi1,zs1,zs2,HSZ,HKZ⟩:=Cd.pre4 c f 9 a n text s k ca ia sa ka cc ic sc kc pv w hS hK
  clear hS hK
  obtain rfl:k=[]:=List.eq_nil_of_length_eq_zero hkl
  have HT:Hid (Cd.top []=0):=(rfl:Cd.top []=0)
  have HBL:Hid (Cd.below []=0):=(rfl:Cd.below []=0)
  simp only [List.length_nil] at hfew hZ zs2 hk600 HKZ ⊢
  obtain ⟨j,rfl⟩:∃ j:Nat,a=(j:Int):=⟨a.toNat,by omega⟩
  have hj:j < c.length:=by omega
  obtain ⟨gc,cap',pa,pc,ia2,ic2,hv,hgc,c0,c1,c2,c3,c4,hP,_⟩:=(hC.below hbZ).fn j hj
  obtain ⟨rfl,rfl⟩:ca=some ⟨gc,0,none⟩∧cc=cap':=by injection hv with e1 e2 e3;exact ⟨e1,e3⟩
  obtain ⟨f2,HF2⟩:∃ f2,Hid (c[j]=f2):=⟨_,(rfl:c[j]=_)⟩
  rw [HF2.out] at c0 c1 c2 c3 c4 hP
  have hp8:f2.params.length≤8:=by rw [← HF2.out];exact hpl _ (List.getElem_mem hj)
  clear hpl
  have HGD:Hid (c.getD j Cd.noFn=f2):=by rw [Hid,List.getD_eq_getElem?_getD,List.getElem?_eq_getElem hj,HF2.out];rfl
  have HPZ:Hid (Cd.IntsAt w.heap.size Z (.slice pa f2.params.length pc) f2.params):=hP
  obtain ⟨q,HQ⟩:∃ q,Hid (f2.params.length=q):=⟨_,(rfl:f2.params.length=_)⟩
  rw [HQ.out] at c1 hp8 HPZ
  clear hP hv
  obtain ⟨Z2,hZ2⟩:∃ Y,Z.alloc (.cells #[.string f2.name,.slice pa q pc,.int .i64 f2.result,.int .i64 f2.slots,.slice ia2 f2.ins.length ic2] 37)=Y:=⟨_,rfl⟩
  have hbZ2:Below w.heap.size w Z2:=by rw [← hZ2];exact Cd.Below.new hbZ _
  have HZ2s:Hid (Z2.heap.size=Z.heap.size+1):=by rw [Hid,← hZ2];exact World.size_alloc _ _
  have y1:Z2.cell? ⟨Z.heap.size,1,none⟩=some (.slice pa q pc):=by rw [← hZ2];exact Cd.new_cell Z _ _ 1 _ rfl
  have y2:Z2.cell? ⟨Z.heap.size,2,none⟩=some (.int .i64 f2.result):=by rw [← hZ2];exact Cd.new_cell Z _ _ 2 _ rfl
  have hfq:0 < q:=by simpa only [HGD.out,HQ.out,Int.toNat_natCast] using hfew
  clear hfew
  have HG:Hid (Cd.gives c f ⟨9,(j:Int),n,text⟩ s []=(0,[],false)):=by
    simp only [Hid,Cd.gives]
    rw [if_neg (by decide),if_neg (by decide),if_neg (by decide),if_neg (by decide),if_neg (by decide),if_neg (by decide),if_neg (by decide),if_pos (by decide)]
    show (if (([]:List Int):List Int).length < (c.getD (Int.toNat (j:Int)) Cd.noFn).params.length then _ else _)=_
    simp only [Int.toNat_natCast,HGD.out,HQ.out]
    rw [if_pos (by rw [(rfl:([]:List Int).length=0)];exact hfq)]
  unfold Cd.GivesIs
  rw [HG.out]
  unfold Cd.fnV Cd.insV Cd.shV
  clear HG HSZ HT HBL
  go_enter Tryz.func65,Tryz.ntmps65
  go_wp2_with fail
  all_goals go_ret3
  all_goals exact ⟨⟨.slice (some ⟨Z2.heap.size,0,none⟩) 0 0,by (first | rfl | (simp;done) | (simp [*];done) | (simp_all;done) | (simp;omega)),Cd.IntsAt.newZ (Z:=Z2) (hs:=[]) _ _ rfl⟩,by first | exact Cd.Below.new hbZ2 _ | exact Below.drew (Cd.Below.new hbZ2 _)⟩
set_option maxRecDepth 100000 in
set_option maxHeartbeats 1000000 in
theorem Cd.gives_9A (c:List Cd.Fn) (f:Cd.Fn) (a n:Int) (text:ByteArray) (s k:List Int) (ca ia sa ka:Option Addr) (cc ic sc kc:Nat) (pv:Value) (_hcl:c.length≤60) (_hil:f.ins.length≤50000) (_hsl:s.length≤200) (hkl:k.length=0) (hk600:k.length≤600) (ha0:0≤a) (ha1:a < (c.length:Int)) (hpl:∀ g ∈ c,g.params.length≤8) (hfew:(c.getD a.toNat Cd.noFn).params.length≤k.length) (w:World) (hC:Cd.CodeAt w.heap.size w (.slice ca c.length cc) c) (hS:Cd.IntsAt w.heap.size w (.slice sa s.length sc) s) (hK:Cd.IntsAt w.heap.size w (.slice ka k.length kc) k) :
    Calls Tryz.prog 65 #[.agg #[.slice ca c.length cc],Cd.fnV f pv (.slice ia f.ins.length ic),Cd.insV ⟨9,a,n,text⟩,Cd.shV 1 (.slice sa s.length sc) (.slice ka k.length kc)] w (Cd.GivesIs c f ⟨9,a,n,text⟩ s k w):=by
  obtain ⟨Y1,Y2,Y3,Z,hY1,hY2,hY3,hZ,hs1,hs2,hs3,hbZ,HZs,zc,zf,zi0,zi1,zs1,zs2,HSZ,HKZ⟩:=Cd.pre4 c f 9 a n text s k ca ia sa ka cc ic sc kc pv w hS hK
  clear hS hK
  obtain rfl:k=[]:=List.eq_nil_of_length_eq_zero hkl
  have HT:Hid (Cd.top []=0):=(rfl:Cd.top []=0)
  have HBL:Hid (Cd.below []=0):=(rfl:Cd.below []=0)
  simp only [List.length_nil] at hfew hZ zs2 hk600 HKZ ⊢
  obtain ⟨j,rfl⟩:∃ j:Nat,a=(j:Int):=⟨a.toNat,by omega⟩
  have hj:j < c.length:=by omega
  obtain ⟨gc,cap',pa,pc,ia2,ic2,hv,hgc,c0,c1,c2,c3,c4,hP,_⟩:=(hC.below hbZ).fn j hj
  obtain ⟨rfl,rfl⟩:ca=some ⟨gc,0,none⟩∧cc=cap':=by injection hv with e1 e2 e3;exact ⟨e1,e3⟩
  obtain ⟨f2,HF2⟩:∃ f2,Hid (c[j]=f2):=⟨_,(rfl:c[j]=_)⟩
  rw [HF2.out] at c0 c1 c2 c3 c4 hP
  have hp8:f2.params.length≤8:=by rw [← HF2.out];exact hpl _ (List.getElem_mem hj)
  clear hpl
  have HGD:Hid (c.getD j Cd.noFn=f2):=by rw [Hid,List.getD_eq_getElem?_getD,List.getElem?_eq_getElem hj,HF2.out];rfl
  have HPZ:Hid (Cd.IntsAt w.heap.size Z (.slice pa f2.params.length pc) f2.params):=hP
  obtain ⟨q,HQ⟩:∃ q,Hid (f2.params.length=q):=⟨_,(rfl:f2.params.length=_)⟩
  rw [HQ.out] at c1 hp8 HPZ
  clear hP hv
  obtain ⟨Z2,hZ2⟩:∃ Y,Z.alloc (.cells #[.string f2.name,.slice pa q pc,.int .i64 f2.result,.int .i64 f2.slots,.slice ia2 f2.ins.length ic2] 37)=Y:=⟨_,rfl⟩
  have hbZ2:Below w.heap.size w Z2:=by rw [← hZ2];exact Cd.Below.new hbZ _
  have HZ2s:Hid (Z2.heap.size=Z.heap.size+1):=by rw [Hid,← hZ2];exact World.size_alloc _ _
  have y1:Z2.cell? ⟨Z.heap.size,1,none⟩=some (.slice pa q pc):=by rw [← hZ2];exact Cd.new_cell Z _ _ 1 _ rfl
  have y2:Z2.cell? ⟨Z.heap.size,2,none⟩=some (.int .i64 f2.result):=by rw [← hZ2];exact Cd.new_cell Z _ _ 2 _ rfl
  have hfq:q≤0:=by simpa only [HGD.out,HQ.out,Int.toNat_natCast] using hfew
  clear hfew
  obtain ⟨tq,HTQ⟩:∃ t,Hid ((if (([]:List Int)).drop (0 - q)=f2.params then q else 0)=t):=⟨_,(rfl:(if (([]:List Int)).drop (0 - q)=f2.params then q else 0)=_)⟩
  obtain ⟨tl,HTL⟩:∃ t,Hid ((if (([]:List Int)).drop (0 - q)=f2.params then (if f2.result=0 then [] else [f2.result]) else ([]:List Int))=t):=⟨_,(rfl:(if (([]:List Int)).drop (0 - q)=f2.params then (if f2.result=0 then [] else [f2.result]) else ([]:List Int))=_)⟩
  obtain ⟨tb,HTB⟩:∃ t,Hid (decide ((([]:List Int)).drop (0 - q)=f2.params)=t):=⟨_,(rfl:decide ((([]:List Int)).drop (0 - q)=f2.params)=_)⟩
  have HG:Hid (Cd.gives c f ⟨9,(j:Int),n,text⟩ s []=(tq,tl,tb)):=by
    simp only [Hid,Cd.gives]
    rw [if_neg (by decide),if_neg (by decide),if_neg (by decide),if_neg (by decide),if_neg (by decide),if_neg (by decide),if_neg (by decide),if_pos (by decide)]
    show (if (([]:List Int):List Int).length < (c.getD (Int.toNat (j:Int)) Cd.noFn).params.length then _ else _)=_
    simp only [Int.toNat_natCast,HGD.out,HQ.out]
    rw [if_neg (by rw [(rfl:([]:List Int).length=0)];omega),(rfl:([]:List Int).length=0),← HTQ.out,← HTL.out,← HTB.out]
    show (if (([]:List Int)).drop (0 - q)=f2.params then _ else _)=_
    split
    · rename_i hh
      simp only [decide_eq_true hh];first | rfl | (simp [*];done) | skip
    · rename_i hh
      simp only [decide_eq_false hh];first | rfl | (simp [*];done) | skip
  unfold Cd.GivesIs
  rw [HG.out]
  unfold Cd.fnV Cd.insV Cd.shV
  clear HG HSZ HT HBL
  go_enter Tryz.func65,Tryz.ntmps65
  obtain ⟨r,hr⟩:∃ r,0=r+q:=⟨0 - q,by omega⟩
  have hw3:wrap64 ((0:Int) - (q:Int))=(r:Int):=by rw [IntWalk.wrap64_in _ (by omega)];omega
  have hw4:IntKind.i64.wrap ((0:Int) - (q:Int))=(r:Int):=by rw [IntWalk.i64_left];exact hw3
  have HR8:Hid (0=r+q):=hr
  have HRQ:Hid (r=0 - q):=by rw [Hid];omega
  clear hr
  have HKC:Hid (∀ i,i < q→∃ g1 o1 y1,(ka:Option Addr)=some ⟨g1,o1,none⟩∧g1 < w.heap.size∧Z2.cell? ⟨g1,o1+(r+i),none⟩=some (.int .i64 y1)∧((([]:List Int)).drop r)[i]? = some y1):=fun i hi=>by
    obtain ⟨a',cp,he,hc⟩:=HKZ.out
    injection he with e1
    subst e1
    have hl:r+i < (([]:List Int)).length:=by have:=HR8.out;have:=(rfl:([]:List Int).length=0);omega
    obtain ⟨g,o,ha,hg,hcell⟩:=hc (r+i) hl
    refine ⟨g,o,(([]:List Int))[r+i],ha,hg, ?_,by rw [List.getElem?_drop,List.getElem?_eq_getElem hl]⟩
    rw [← hZ2,Below.cell (Cd.b1 Z _) (p:=⟨g,o+(r+i),none⟩) (by show g < _;have:=HZs.out;omega)];exact hcell
  have HPC:Hid (∀ i (hi:i < f2.params.length),∃ gp op,pa=some ⟨gp,op,none⟩∧gp < w.heap.size∧Z2.cell? ⟨gp,op+i,none⟩=some (.int .i64 f2.params[i])):=fun i hi=>by
    obtain ⟨a',cp,he,hc⟩:=HPZ.out
    injection he with e1
    subst e1
    obtain ⟨g,o,ha,hg,hcell⟩:=hc i hi
    refine ⟨g,o,ha,hg, ?_⟩
    rw [← hZ2,Below.cell (Cd.b1 Z _) (p:=⟨g,o+i,none⟩) (by show g < _;have:=HZs.out;omega)];exact hcell
  have HLL:Hid (((([]:List Int)).drop r).length=q):=by rw [Hid,List.length_drop,(rfl:([]:List Int).length=0)];have:=HR8.out;omega
  have z32:Z2.cell? ⟨w.heap.size+3,2,none⟩=some (.slice ka (0) kc):=by rw [← hZ2,Below.cell (Cd.b1 Z _) (p:=⟨w.heap.size+3,2,none⟩) (by show w.heap.size+3 < _;have:=HZs.out;omega)];exact zs2
  clear HKZ HPZ
  go_wp2_with fail
  go_loopw [21] (fun t wr => ∃ i qd:Nat,i≤q∧t = .int .i64 (i:Int)∧wr=Z2.drewN qd∧∀ u,u < i→((([]:List Int)).drop r)[u]? = f2.params[u]?) (fun t _=>q - (intOf t).toNat)
  case atStart=>exact ⟨0,0,by omega,rfl,rfl,fun u hu=>by omega⟩
  case round =>
    obtain ⟨i,qd,hi,rfl,hqd,hu⟩:=hrel
    have HQD:Hid (wr=Z2.drewN qd):=hqd
    clear hqd
    have hbR:Below w.heap.size w wr:=by rw [HQD.out];exact Cd.belowD _ hbZ2
    have y19:wr.cell? ⟨Z.heap.size,1,none⟩=some (.slice pa q pc):=by rw [HQD.out];exact y1
    have y29:wr.cell? ⟨Z.heap.size,2,none⟩=some (.int .i64 f2.result):=by rw [HQD.out];exact y2
    have zs9:wr.cell? ⟨w.heap.size+3,2,none⟩=some (.slice ka (0) kc):=by rw [HQD.out];exact z32
    by_cases hlt:i < q
    · exfalso;omega
    · have hyes:(([]:List Int)).drop r=f2.params:=by
        refine List.ext_getElem? (fun u => ?_)
        by_cases h:u < q
        · exact hu u (by omega)
        · rw [List.getElem?_eq_none (by rw [HLL.out];omega),List.getElem?_eq_none (by rw [HQ.out];omega)]
      have HY:Hid ((([]:List Int)).drop (0 - q)=f2.params):=by rw [Hid,← HRQ.out];exact hyes
      clear hu hyes
      by_cases hres:f2.result=0
      · have hrb:(f2.result == 0)=true:=by simp [hres]
        go_wp2_with fail
        all_goals go_ret3
        all_goals rw [← HTQ.out,← HTL.out,← HTB.out,if_pos HY.out,if_pos HY.out,if_pos hres,decide_eq_true HY.out]
        all_goals exact ⟨⟨.slice (some ⟨wr.heap.size,0,none⟩) 0 0,by (first | rfl | (simp;done) | (simp [*];done) | (simp_all;done) | (simp;omega)),Cd.IntsAt.newZ (Z:=wr) (hs:=[]) _ _ rfl⟩,by first | exact Cd.Below.new hbR _ | exact Below.drew (Cd.Below.new hbR _)⟩
      · have hrb:(f2.result == 0)=false:=by simp [hres]
        have S0:wr.cell? ⟨Z.heap.size,2,none⟩=some (.int .i64 f2.result):=y29
        have S1:wr.drew.cell? ⟨Z.heap.size,2,none⟩=some (.int .i64 f2.result):=y29
        have hzl:Z.heap.size < wr.heap.size:=by rw [HQD.out];show Z.heap.size < Z2.heap.size;have:=HZ2s.out;omega
        have S2:∀ o:Obj,(wr.alloc o).cell? ⟨Z.heap.size,2,none⟩=some (.int .i64 f2.result):=fun o=>((Cd.b1 wr o).cell (p:=⟨Z.heap.size,2,none⟩) hzl).trans y29
        have S3:∀ o:Obj,(wr.drew.alloc o).cell? ⟨Z.heap.size,2,none⟩=some (.int .i64 f2.result):=fun o=>S2 o
        have S4:∀ o:Obj,(wr.alloc o).drew.cell? ⟨Z.heap.size,2,none⟩=some (.int .i64 f2.result):=fun o=>S2 o
        clear hzl
        go_wp2_with fail
        go_region_held3 (fun w'=>w'.cell? ⟨Z.heap.size,2,none⟩=some (.int .i64 f2.result)) (with_reducible first | exact S0 | exact S1 | exact S2 _ | exact S3 _ | exact S4 _) (fail)
        all_goals go_wp2_with fail
        all_goals go_ret3
        all_goals rw [← HTQ.out,← HTL.out,← HTB.out,if_pos HY.out,if_pos HY.out,if_neg hres,decide_eq_true HY.out]
        all_goals exact ⟨⟨.slice (some ⟨wr.heap.size,0,none⟩) 1 1,by (first | rfl | (simp;done) | (simp [*];done) | (simp_all;done) | (simp;omega)),Cd.IntsAt.newZ (Z:=wr) (hs:=[f2.result]) _ _ rfl⟩,by first | exact Cd.Below.new hbR _ | exact Below.drew (Cd.Below.new hbR _)⟩
end Go.Proofs.YtbkhedpabfanoaaGreatDoor
