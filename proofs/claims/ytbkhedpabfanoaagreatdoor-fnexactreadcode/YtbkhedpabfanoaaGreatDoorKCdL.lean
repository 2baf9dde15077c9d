import Derived.Test.YtbkhedpabfanoaaGreatDoorKCdK
namespace Go.Proofs.YtbkhedpabfanoaaGreatDoor
open Go.RowKit

set_option maxRecDepth 100000 in
set_option maxHeartbeats 1000000 in
theorem Cd.gives_8fA (c:List Cd.Fn) (f:Cd.Fn) (a n:Int) (text:ByteArray) (s k:List Int) (ca ia sa ka:Option Addr) (cc ic sc kc:Nat) (pv:Value) (_hcl:c.length≤60) (_hil:f.ins.length≤50000) (_hsl:s.length≤200) (hkl:k.length=0) (hk600:k.length≤600) (h1:1≤a) (h12:a≤12) (hfew:k.length < (Cd.want a).length) (w:World) (hS:Cd.IntsAt w.heap.size w (.slice sa s.length sc) s) (hK:Cd.IntsAt w.heap.size w (.slice ka k.length kc) k) :
    Calls Tryz.prog 65 #[.agg #[.slice ca c.length cc],Cd.fnV f pv (.slice ia f.ins.length ic),Cd.insV ⟨8,a,n,text⟩,Cd.shV 1 (.slice sa s.length sc) (.slice ka k.length kc)] w (Cd.GivesIs c f ⟨8,a,n,text⟩ s k w):=by
  obtain ⟨Y1,Y2,Y3,Z,hY1,hY2,hY3,hZ,hs1,hs2,hs3,hbZ,HZs,zc,zf,zi0,zi1,zs1,zs2,HSZ,HKZ⟩:=Cd.pre4 c f 8 a n text s k ca ia sa ka cc ic sc kc pv w hS hK
  clear hS hK
  obtain rfl:k=[]:=List.eq_nil_of_length_eq_zero hkl
  have HT:Hid (Cd.top []=0):=(rfl:Cd.top []=0)
  have HBL:Hid (Cd.below []=0):=(rfl:Cd.below []=0)
  simp only [List.length_nil] at hZ zs2 hk600 HKZ ⊢
  obtain ⟨q,HQ⟩:∃ q,Hid ((Cd.want a).length=q):=⟨_,(rfl:(Cd.want a).length=_)⟩
  rw [HQ.out] at hfew
  have HG:Hid (Cd.gives c f ⟨8,a,n,text⟩ s []=(0,[],false)):=by
    simp only [Hid,Cd.gives]
    rw [if_neg (by decide),if_neg (by decide),if_neg (by decide),if_neg (by decide),if_neg (by decide),if_neg (by decide),if_pos (by decide),if_pos (by rw [HQ.out];simpa using hfew)]
  unfold Cd.GivesIs
  rw [HG.out]
  unfold Cd.fnV Cd.insV Cd.shV
  clear HG HSZ HKZ HT HBL
  go_enter Tryz.func65,Tryz.ntmps65
  go_wp2_with fail
  go_at_call 81;refine (Cd.word_any a h1 h12 _).mono ?_;rintro e w' ⟨⟨wd,rfl⟩,rfl⟩;rw [HQ.out]
  go_wp2_with fail
  all_goals go_ret3
  all_goals exact ⟨⟨.slice (some ⟨Z.heap.size,0,none⟩) ([]:List Int).length ([]:List Int).length,by (first | rfl | (simp;done) | (simp [*];done) | (simp_all;done) | (simp;omega)),Cd.IntsAt.newZ (Z:=Z) (hs:=[]) _ _ rfl⟩,by first | exact Cd.Below.new hbZ _ | exact Below.drew (Cd.Below.new hbZ _) | exact Below.drew (Below.drew (Cd.Below.new hbZ _))⟩
set_option maxRecDepth 100000 in
set_option maxHeartbeats 1000000 in
theorem Cd.gives_8fB (c:List Cd.Fn) (f:Cd.Fn) (a n:Int) (text:ByteArray) (s k:List Int) (ca ia sa ka:Option Addr) (cc ic sc kc:Nat) (pv:Value) (_hcl:c.length≤60) (_hil:f.ins.length≤50000) (_hsl:s.length≤200) (hkl:k.length=1) (hk600:k.length≤600) (h1:1≤a) (h12:a≤12) (hfew:k.length < (Cd.want a).length) (w:World) (hS:Cd.IntsAt w.heap.size w (.slice sa s.length sc) s) (hK:Cd.IntsAt w.heap.size w (.slice ka k.length kc) k) :
    Calls Tryz.prog 65 #[.agg #[.slice ca c.length cc],Cd.fnV f pv (.slice ia f.ins.length ic),Cd.insV ⟨8,a,n,text⟩,Cd.shV 1 (.slice sa s.length sc) (.slice ka k.length kc)] w (Cd.GivesIs c f ⟨8,a,n,text⟩ s k w):=by
  obtain ⟨Y1,Y2,Y3,Z,hY1,hY2,hY3,hZ,hs1,hs2,hs3,hbZ,HZs,zc,zf,zi0,zi1,zs1,zs2,HSZ,HKZ⟩:=Cd.pre4 c f 8 a n text s k ca ia sa ka cc ic sc kc pv w hS hK
  clear hS hK
  obtain ⟨x,rfl⟩:∃ x,k=[x]:=by
    cases k with
    | nil=>simp at hkl
    | cons x r=>cases r with
      | nil=>exact ⟨x,rfl⟩
      | cons y q=>simp at hkl
  have HT:Hid (Cd.top [x]=x):=(rfl:Cd.top [x]=x)
  have HBL:Hid (Cd.below [x]=0):=(rfl:Cd.below [x]=0)
  obtain ⟨gk,ok,rfl,_,kx⟩:∃ g o,ka=some ⟨g,o,none⟩∧g < w.heap.size∧Z.cell? ⟨g,o,none⟩=some (.int .i64 x):=by
    obtain ⟨a',cp,he,hc⟩:=HKZ.out
    injection he with e1
    subst e1
    exact hc 0 (by simp)
  simp only [List.length_cons,List.length_nil,Nat.zero_add] at hZ zs2 hk600 HKZ ⊢
  obtain ⟨q,HQ⟩:∃ q,Hid ((Cd.want a).length=q):=⟨_,(rfl:(Cd.want a).length=_)⟩
  rw [HQ.out] at hfew
  have HG:Hid (Cd.gives c f ⟨8,a,n,text⟩ s [x]=(0,[],false)):=by
    simp only [Hid,Cd.gives]
    rw [if_neg (by decide),if_neg (by decide),if_neg (by decide),if_neg (by decide),if_neg (by decide),if_neg (by decide),if_pos (by decide),if_pos (by rw [HQ.out];simpa using hfew)]
  unfold Cd.GivesIs
  rw [HG.out]
  unfold Cd.fnV Cd.insV Cd.shV
  clear HG HSZ HKZ HT HBL
  go_enter Tryz.func65,Tryz.ntmps65
  go_wp2_with fail
  go_at_call 81;refine (Cd.word_any a h1 h12 _).mono ?_;rintro e w' ⟨⟨wd,rfl⟩,rfl⟩;rw [HQ.out]
  go_wp2_with fail
  all_goals go_ret3
  all_goals exact ⟨⟨.slice (some ⟨Z.heap.size,0,none⟩) ([]:List Int).length ([]:List Int).length,by (first | rfl | (simp;done) | (simp [*];done) | (simp_all;done) | (simp;omega)),Cd.IntsAt.newZ (Z:=Z) (hs:=[]) _ _ rfl⟩,by first | exact Cd.Below.new hbZ _ | exact Below.drew (Cd.Below.new hbZ _) | exact Below.drew (Below.drew (Cd.Below.new hbZ _))⟩
set_option maxRecDepth 100000 in
set_option maxHeartbeats 1000000 in
theorem Cd.gives_8fC (c:List Cd.Fn) (f:Cd.Fn) (a n:Int) (text:ByteArray) (s k:List Int) (m:Nat) (ca ia sa ka:Option Addr) (cc ic sc kc:Nat) (pv:Value) (_hcl:c.length≤60) (_hil:f.ins.length≤50000) (_hsl:s.length≤200) (hkl:k.length=m+2) (hk600:k.length≤600) (h1:1≤a) (h12:a≤12) (hfew:k.length < (Cd.want a).length) (w:World) (hS:Cd.IntsAt w.heap.size w (.slice sa s.length sc) s) (hK:Cd.IntsAt w.heap.size w (.slice ka k.length kc) k) :
    Calls Tryz.prog 65 #[.agg #[.slice ca c.length cc],Cd.fnV f pv (.slice ia f.ins.length ic),Cd.insV ⟨8,a,n,text⟩,Cd.shV 1 (.slice sa s.length sc) (.slice ka k.length kc)] w (Cd.GivesIs c f ⟨8,a,n,text⟩ s k w):=by
  obtain ⟨Y1,Y2,Y3,Z,hY1,hY2,hY3,hZ,hs1,hs2,hs3,hbZ,HZs,zc,zf,zi0,zi1,zs1,zs2,HSZ,HKZ⟩:=Cd.pre4 c f 8 a n text s k ca ia sa ka cc ic sc kc pv w hS hK
  clear hS hK
  obtain ⟨y,hy⟩:∃ y,k[m]'(by omega)=y:=⟨_,rfl⟩
  obtain ⟨x,hx⟩:∃ x,k[m+1]'(by omega)=x:=⟨_,rfl⟩
  have HT:Hid (Cd.top k=x):=by
    rw [Hid,Cd.top,List.getLast?_eq_getElem?,hkl,show m+2 - 1=m+1 by omega,List.getElem?_eq_getElem (by omega),hx];rfl
  have HBL:Hid (Cd.below k=y):=by
    rw [Hid,Cd.below,List.getLast?_eq_getElem?,List.length_take,hkl,show min (m+2 - 1) (m+2) - 1=m by omega,List.getElem?_take_of_lt (by omega),List.getElem?_eq_getElem (by omega),hy];rfl
  obtain ⟨gk,ok,rfl,_,ky,kx⟩:∃ g o,ka=some ⟨g,o,none⟩∧g < w.heap.size∧Z.cell? ⟨g,o+m,none⟩=some (.int .i64 y)∧Z.cell? ⟨g,o+(m+1),none⟩=some (.int .i64 x):=by
    obtain ⟨a',cp,he,hc⟩:=HKZ.out
    injection he with e1
    subst e1
    obtain ⟨g,o,ha,hg,c1⟩:=hc m (by omega)
    obtain ⟨g2,o2,ha2,hg2,c2⟩:=hc (m+1) (by omega)
    rw [ha] at ha2
    injection ha2 with e;injection e with e1 e2
    subst e1 e2
    exact ⟨g,o,ha,hg,by rw [c1,hy],by rw [c2,hx]⟩
  have HLEN:Hid (k.length=m+2):=hkl
  rw [HLEN.out] at hfew hZ zs2 hk600 HKZ ⊢
  clear hkl hx hy
  have hw1:wrap64 ((m:Int)+2 - 1)=(m:Int)+1:=by rw [IntWalk.wrap64_in _ (by omega)];omega
  have hw2:wrap64 ((m:Int)+2 - 2)=(m:Int):=by rw [IntWalk.wrap64_in _ (by omega)];omega
  obtain ⟨q,HQ⟩:∃ q,Hid ((Cd.want a).length=q):=⟨_,(rfl:(Cd.want a).length=_)⟩
  rw [HQ.out] at hfew
  have HG:Hid (Cd.gives c f ⟨8,a,n,text⟩ s k=(0,[],false)):=by
    simp only [Hid,Cd.gives]
    rw [if_neg (by decide),if_neg (by decide),if_neg (by decide),if_neg (by decide),if_neg (by decide),if_neg (by decide),if_pos (by decide),if_pos (by rw [HQ.out,HLEN.out];exact hfew)]
  unfold Cd.GivesIs
  rw [HG.out]
  unfold Cd.fnV Cd.insV Cd.shV
  clear HG HSZ HKZ HT HBL
  go_enter Tryz.func65,Tryz.ntmps65
  go_wp2_with fail
  go_at_call 81;refine (Cd.word_any a h1 h12 _).mono ?_;rintro e w' ⟨⟨wd,rfl⟩,rfl⟩;rw [HQ.out]
  go_wp2_with fail
  all_goals go_ret3
  all_goals exact ⟨⟨.slice (some ⟨Z.heap.size,0,none⟩) ([]:List Int).length ([]:List Int).length,by (first | rfl | (simp;done) | (simp [*];done) | (simp_all;done) | (simp;omega)),Cd.IntsAt.newZ (Z:=Z) (hs:=[]) _ _ rfl⟩,by first | exact Cd.Below.new hbZ _ | exact Below.drew (Cd.Below.new hbZ _) | exact Below.drew (Below.drew (Cd.Below.new hbZ _))⟩
set_option maxRecDepth 100000 in
set_option maxHeartbeats 1000000 in
theorem Cd.gives_8C (c:List Cd.Fn) (f:Cd.Fn) (a n:Int) (text:ByteArray) (s k:List Int) (m:Nat) (ca ia sa ka:Option Addr) (cc ic sc kc:Nat) (pv:Value) (_hcl:c.length≤60) (_hil:f.ins.length≤50000) (_hsl:s.length≤200) (hkl:k.length=m+2) (hk600:k.length≤600) (h1:1≤a) (h12:a≤12) (hfew:(Cd.want a).length≤k.length) (hkc:k.length≤kc) (w:World) (hS:Cd.IntsAt w.heap.size w (.slice sa s.length sc) s) (hK:Cd.IntsAt w.heap.size w (.slice ka k.length kc) k) :
    Calls Tryz.prog 65 #[.agg #[.slice ca c.length cc],Cd.fnV f pv (.slice ia f.ins.length ic),Cd.insV ⟨8,a,n,text⟩,Cd.shV 1 (.slice sa s.length sc) (.slice ka k.length kc)] w (Cd.GivesIs c f ⟨8,a,n,text⟩ s k w):=by
  obtain ⟨Y1,Y2,Y3,Z,hY1,hY2,hY3,hZ,hs1,hs2,hs3,hbZ,HZs,zc,zf,zi0,zi1,zs1,zs2,HSZ,HKZ⟩:=Cd.pre4 c f 8 a n text s k ca ia sa ka cc ic sc kc pv w hS hK
  clear hS hK
  obtain ⟨y,hy⟩:∃ y,k[m]'(by omega)=y:=⟨_,rfl⟩
  obtain ⟨x,hx⟩:∃ x,k[m+1]'(by omega)=x:=⟨_,rfl⟩
  have HT:Hid (Cd.top k=x):=by
    rw [Hid,Cd.top,List.getLast?_eq_getElem?,hkl,show m+2 - 1=m+1 by omega,List.getElem?_eq_getElem (by omega),hx];rfl
  have HBL:Hid (Cd.below k=y):=by
    rw [Hid,Cd.below,List.getLast?_eq_getElem?,List.length_take,hkl,show min (m+2 - 1) (m+2) - 1=m by omega,List.getElem?_take_of_lt (by omega),List.getElem?_eq_getElem (by omega),hy];rfl
  obtain ⟨gk,ok,rfl,_,ky,kx⟩:∃ g o,ka=some ⟨g,o,none⟩∧g < w.heap.size∧Z.cell? ⟨g,o+m,none⟩=some (.int .i64 y)∧Z.cell? ⟨g,o+(m+1),none⟩=some (.int .i64 x):=by
    obtain ⟨a',cp,he,hc⟩:=HKZ.out
    injection he with e1
    subst e1
    obtain ⟨g,o,ha,hg,c1⟩:=hc m (by omega)
    obtain ⟨g2,o2,ha2,hg2,c2⟩:=hc (m+1) (by omega)
    rw [ha] at ha2
    injection ha2 with e;injection e with e1 e2
    subst e1 e2
    exact ⟨g,o,ha,hg,by rw [c1,hy],by rw [c2,hx]⟩
  have HLEN:Hid (k.length=m+2):=hkl
  rw [HLEN.out] at hkc hfew hZ zs2 hk600 HKZ ⊢
  clear hkl hx hy
  have hw1:wrap64 ((m:Int)+2 - 1)=(m:Int)+1:=by rw [IntWalk.wrap64_in _ (by omega)];omega
  have hw2:wrap64 ((m:Int)+2 - 2)=(m:Int):=by rw [IntWalk.wrap64_in _ (by omega)];omega
  obtain ⟨q,HQ⟩:∃ q,Hid ((Cd.want a).length=q):=⟨_,(rfl:(Cd.want a).length=_)⟩
  rw [HQ.out] at hfew
  have hq3:q≤3:=by
    rw [← HQ.out]
    have h:a=1∨a=2∨a=3∨a=4∨a=5∨a=6∨a=7∨a=8∨a=9∨a=10∨a=11∨a=12:=by omega
    rcases h with rfl | rfl | rfl | rfl | rfl | rfl | rfl | rfl | rfl | rfl | rfl | rfl <;> decide
  have HG:Hid (Cd.gives c f ⟨8,a,n,text⟩ s k=(q,[Cd.built a (k.drop (m+2 - q))],(Cd.built a (k.drop (m+2 - q)) != 0))):=by
    simp only [Hid,Cd.gives]
    rw [if_neg (by decide),if_neg (by decide),if_neg (by decide),if_neg (by decide),if_neg (by decide),if_neg (by decide),if_pos (by decide),if_neg (by rw [HQ.out,HLEN.out];omega),Cd.ne_b,HQ.out,HLEN.out]
  unfold Cd.GivesIs
  rw [HG.out]
  unfold Cd.fnV Cd.insV Cd.shV
  clear HG HSZ HT HBL
  go_enter Tryz.func65,Tryz.ntmps65
  obtain ⟨r,hr⟩:∃ r,m+2=r+q:=⟨m+2 - q,by omega⟩
  have hw3:wrap64 ((m:Int)+2 - (q:Int))=(r:Int):=by rw [IntWalk.wrap64_in _ (by omega)];omega
  have HR8:Hid (m+2=r+q):=hr
  have hr0:(0:Int)≤(r:Int):=by omega
  have hw4:IntKind.i64.wrap ((m:Int)+2 - (q:Int))=(r:Int):=by rw [IntWalk.i64_left];exact hw3
  have hneg:decide ((r:Int) < 0)=false:=by simp
  have hle1:decide ((m:Int)+2 < (r:Int))=false:=by simp;omega
  have hle2:decide ((kc:Int) < (m:Int)+2)=false:=by simp;omega
  have htn:((r:Int)).toNat=r:=Int.toNat_natCast r
  have hr1:(r:Int)≤(m:Int)+2:=by omega
  have hc1:(m:Int)+2≤(kc:Int):=by omega
  have hr2:(r:Int)≤(kc:Int):=by omega
  clear hr
  obtain ⟨u,HU⟩:∃ u,Hid (Cd.built a (k.drop r)=u):=⟨_,(rfl:Cd.built a (k.drop r)=_)⟩
  have HLD:Hid ((k.drop r).length≤1048576):=by rw [Hid,List.length_drop,HLEN.out];omega
  have HC0:Hid (Cd.IntsAt Z.heap.size Z (.slice (if kc=r then some ⟨gk,ok,none⟩ else some ⟨gk,ok+r,none⟩) (m+2 - r) (kc - r)) (k.drop r)):=(HKZ.out.mono hbZ.size).cut HLEN.out hkc (by have:=HR8.out;omega)
  have HC1:Hid (Cd.IntsAt Z.drew.heap.size Z.drew (.slice (if kc=r then some ⟨gk,ok,none⟩ else some ⟨gk,ok+r,none⟩) (m+2 - r) (kc - r)) (k.drop r)):=HC0.out
  have HRQ:Hid (r=m+2 - q):=by have:=HR8.out;rw [Hid];omega
  have HP9:Hid (∀ w9,Below Z.heap.size Z w9→(fun w'=>w'.cell? ⟨w.heap.size+2,1,none⟩=some (.int .i64 a)∧w'.cell? ⟨w.heap.size+3,2,none⟩=some (.slice (some ⟨gk,ok,none⟩) (m+2) kc)) w9):=fun w9 h=>⟨(h.cell (p:=⟨w.heap.size+2,1,none⟩) (by show w.heap.size+2 < _;have:=HZs.out;omega)).trans zi1,(h.cell (p:=⟨w.heap.size+3,2,none⟩) (by show w.heap.size+3 < _;have:=HZs.out;omega)).trans zs2⟩
  rw [← HRQ.out,HU.out]
  clear HKZ
  have P0:(fun w'=>w'.cell? ⟨w.heap.size+2,1,none⟩=some (.int .i64 a)∧w'.cell? ⟨w.heap.size+3,2,none⟩=some (.slice (some ⟨gk,ok,none⟩) (m+2) kc)) Z:=⟨zi1,zs2⟩
  have P1:(fun w'=>w'.cell? ⟨w.heap.size+2,1,none⟩=some (.int .i64 a)∧w'.cell? ⟨w.heap.size+3,2,none⟩=some (.slice (some ⟨gk,ok,none⟩) (m+2) kc)) Z.drew:=P0
  by_cases hkr:kc=r
  · subst hkr;rw [if_pos rfl,Nat.sub_self,show m+2 - kc=0 by omega] at HC0 HC1
    go_wp2_with fail
    go_at_call 81;refine (Cd.word_any a h1 h12 _).mono ?_;rintro e w' ⟨⟨wd,rfl⟩,rfl⟩;rw [HQ.out]
    go_wp2_with fail
    first | (go_region_held3 (fun w'=>w'.cell? ⟨w.heap.size+2,1,none⟩=some (.int .i64 a)∧w'.cell? ⟨w.heap.size+3,2,none⟩=some (.slice (some ⟨gk,ok,none⟩) (m+2) kc)) (with_reducible first | exact P0 | exact P1 | exact P9) (first | (go_at_call 82;refine (Cd.l3Built_any a h1 h12 _ (k.drop kc) HLD.out _ (by first | exact HC0.out | exact HC1.out)).mono ?_;rintro e w9 ⟨rfl,hb9⟩;rw [HU.out];have hbz9:Below Z.heap.size Z w9:=⟨hb9.os,hb9.tape,hb9.output,hb9.size,hb9.block⟩;have P9:=HP9.out w9 hbz9))) | fail
    all_goals have hbW9:Below w.heap.size w w9:=hbZ.trans (hbz9.mono hbZ.size)
    all_goals go_wp2_with fail
    all_goals go_ret3
    all_goals exact ⟨⟨.slice (some ⟨w9.heap.size,0,none⟩) 1 1,by (first | rfl | (simp;done) | (simp [*];done) | (simp_all;done) | (simp;omega)),Cd.IntsAt.newZ (Z:=w9) (hs:=[u]) _ _ rfl⟩,by first | exact Cd.Below.new hbW9 _ | exact Below.drew (Cd.Below.new hbW9 _)⟩
  · rw [if_neg hkr] at HC0 HC1
    go_wp2_with fail
    go_at_call 81;refine (Cd.word_any a h1 h12 _).mono ?_;rintro e w' ⟨⟨wd,rfl⟩,rfl⟩;rw [HQ.out]
    go_wp2_with fail
    first | (go_region_held3 (fun w'=>w'.cell? ⟨w.heap.size+2,1,none⟩=some (.int .i64 a)∧w'.cell? ⟨w.heap.size+3,2,none⟩=some (.slice (some ⟨gk,ok,none⟩) (m+2) kc)) (with_reducible first | exact P0 | exact P1 | exact P9) (first | (go_at_call 82;refine (Cd.l3Built_any a h1 h12 _ (k.drop r) HLD.out _ (by first | exact HC0.out | exact HC1.out)).mono ?_;rintro e w9 ⟨rfl,hb9⟩;rw [HU.out];have hbz9:Below Z.heap.size Z w9:=⟨hb9.os,hb9.tape,hb9.output,hb9.size,hb9.block⟩;have P9:=HP9.out w9 hbz9))) | fail
    all_goals have hbW9:Below w.heap.size w w9:=hbZ.trans (hbz9.mono hbZ.size)
    all_goals go_wp2_with fail
    all_goals go_ret3
    all_goals exact ⟨⟨.slice (some ⟨w9.heap.size,0,none⟩) 1 1,by (first | rfl | (simp;done) | (simp [*];done) | (simp_all;done) | (simp;omega)),Cd.IntsAt.newZ (Z:=w9) (hs:=[u]) _ _ rfl⟩,by first | exact Cd.Below.new hbW9 _ | exact Below.drew (Cd.Below.new hbW9 _)⟩
set_option maxRecDepth 100000 in
set_option maxHeartbeats 1000000 in
theorem Cd.gives_8B (c:List Cd.Fn) (f:Cd.Fn) (a n:Int) (text:ByteArray) (s k:List Int) (ca ia sa ka:Option Addr) (cc ic sc kc:Nat) (pv:Value) (_hcl:c.length≤60) (_hil:f.ins.length≤50000) (_hsl:s.length≤200) (hkl:k.length=1) (hk600:k.length≤600) (h1:1≤a) (h12:a≤12) (hfew:(Cd.want a).length≤k.length) (hkc:k.length≤kc) (w:World) (hS:Cd.IntsAt w.heap.size w (.slice sa s.length sc) s) (hK:Cd.IntsAt w.heap.size w (.slice ka k.length kc) k) :
    Calls Tryz.prog 65 #[.agg #[.slice ca c.length cc],Cd.fnV f pv (.slice ia f.ins.length ic),Cd.insV ⟨8,a,n,text⟩,Cd.shV 1 (.slice sa s.length sc) (.slice ka k.length kc)] w (Cd.GivesIs c f ⟨8,a,n,text⟩ s k w):=by
  obtain ⟨Y1,Y2,Y3,Z,hY1,hY2,hY3,hZ,hs1,hs2,hs3,hbZ,HZs,zc,zf,zi0,zi1,zs1,zs2,HSZ,HKZ⟩:=Cd.pre4 c f 8 a n text s k ca ia sa ka cc ic sc kc pv w hS hK
  clear hS hK
  obtain ⟨x,rfl⟩:∃ x,k=[x]:=by
    cases k with
    | nil=>simp at hkl
    | cons x r=>cases r with
      | nil=>exact ⟨x,rfl⟩
      | cons y q=>simp at hkl
  have HT:Hid (Cd.top [x]=x):=(rfl:Cd.top [x]=x)
  have HBL:Hid (Cd.below [x]=0):=(rfl:Cd.below [x]=0)
  obtain ⟨gk,ok,rfl,_,kx⟩:∃ g o,ka=some ⟨g,o,none⟩∧g < w.heap.size∧Z.cell? ⟨g,o,none⟩=some (.int .i64 x):=by
    obtain ⟨a',cp,he,hc⟩:=HKZ.out
    injection he with e1
    subst e1
    exact hc 0 (by simp)
  simp only [List.length_cons,List.length_nil,Nat.zero_add] at hkc hfew hZ zs2 hk600 HKZ ⊢
  obtain ⟨q,HQ⟩:∃ q,Hid ((Cd.want a).length=q):=⟨_,(rfl:(Cd.want a).length=_)⟩
  rw [HQ.out] at hfew
  have hq3:q≤3:=by
    rw [← HQ.out]
    have h:a=1∨a=2∨a=3∨a=4∨a=5∨a=6∨a=7∨a=8∨a=9∨a=10∨a=11∨a=12:=by omega
    rcases h with rfl | rfl | rfl | rfl | rfl | rfl | rfl | rfl | rfl | rfl | rfl | rfl <;> decide
  have HG:Hid (Cd.gives c f ⟨8,a,n,text⟩ s [x]=(q,[Cd.built a ([x].drop (1 - q))],(Cd.built a ([x].drop (1 - q)) != 0))):=by
    simp only [Hid,Cd.gives]
    rw [if_neg (by decide),if_neg (by decide),if_neg (by decide),if_neg (by decide),if_neg (by decide),if_neg (by decide),if_pos (by decide),if_neg (by rw [HQ.out];simp;omega),Cd.ne_b,HQ.out];rfl
  unfold Cd.GivesIs
  rw [HG.out]
  unfold Cd.fnV Cd.insV Cd.shV
  clear HG HSZ HT HBL
  go_enter Tryz.func65,Tryz.ntmps65
  obtain ⟨r,hr⟩:∃ r,1=r+q:=⟨1 - q,by omega⟩
  have hw3:wrap64 (1 - (q:Int))=(r:Int):=by rw [IntWalk.wrap64_in _ (by omega)];omega
  have HR8:Hid (1=r+q):=hr
  have hr0:(0:Int)≤(r:Int):=by omega
  have hw4:IntKind.i64.wrap (1 - (q:Int))=(r:Int):=by rw [IntWalk.i64_left];exact hw3
  have hneg:decide ((r:Int) < 0)=false:=by simp
  have hle1:decide (1 < (r:Int))=false:=by simp;omega
  have hle2:decide ((kc:Int) < 1)=false:=by simp;omega
  have htn:((r:Int)).toNat=r:=Int.toNat_natCast r
  have hr1:(r:Int)≤1:=by omega
  have hc1:1≤(kc:Int):=by omega
  have hr2:(r:Int)≤(kc:Int):=by omega
  clear hr
  obtain ⟨u,HU⟩:∃ u,Hid (Cd.built a ([x].drop r)=u):=⟨_,(rfl:Cd.built a ([x].drop r)=_)⟩
  have HLD:Hid (([x].drop r).length≤1048576):=by rw [Hid,List.length_drop];simp;omega
  have HC0:Hid (Cd.IntsAt Z.heap.size Z (.slice (if kc=r then some ⟨gk,ok,none⟩ else some ⟨gk,ok+r,none⟩) (1 - r) (kc - r)) ([x].drop r)):=(HKZ.out.mono hbZ.size).cut (rfl:[x].length=1) hkc (by have:=HR8.out;omega)
  have HC1:Hid (Cd.IntsAt Z.drew.heap.size Z.drew (.slice (if kc=r then some ⟨gk,ok,none⟩ else some ⟨gk,ok+r,none⟩) (1 - r) (kc - r)) ([x].drop r)):=HC0.out
  have HRQ:Hid (r=1 - q):=by have:=HR8.out;rw [Hid];omega
  have HP9:Hid (∀ w9,Below Z.heap.size Z w9→(fun w'=>w'.cell? ⟨w.heap.size+2,1,none⟩=some (.int .i64 a)∧w'.cell? ⟨w.heap.size+3,2,none⟩=some (.slice (some ⟨gk,ok,none⟩) 1 kc)) w9):=fun w9 h=>⟨(h.cell (p:=⟨w.heap.size+2,1,none⟩) (by show w.heap.size+2 < _;have:=HZs.out;omega)).trans zi1,(h.cell (p:=⟨w.heap.size+3,2,none⟩) (by show w.heap.size+3 < _;have:=HZs.out;omega)).trans zs2⟩
  rw [← HRQ.out,HU.out]
  clear HKZ
  have P0:(fun w'=>w'.cell? ⟨w.heap.size+2,1,none⟩=some (.int .i64 a)∧w'.cell? ⟨w.heap.size+3,2,none⟩=some (.slice (some ⟨gk,ok,none⟩) 1 kc)) Z:=⟨zi1,zs2⟩
  have P1:(fun w'=>w'.cell? ⟨w.heap.size+2,1,none⟩=some (.int .i64 a)∧w'.cell? ⟨w.heap.size+3,2,none⟩=some (.slice (some ⟨gk,ok,none⟩) 1 kc)) Z.drew:=P0
  by_cases hkr:kc=r
  · subst hkr;rw [if_pos rfl,Nat.sub_self,show 1 - kc=0 by omega] at HC0 HC1
    go_wp2_with fail
    go_at_call 81;refine (Cd.word_any a h1 h12 _).mono ?_;rintro e w' ⟨⟨wd,rfl⟩,rfl⟩;rw [HQ.out]
    go_wp2_with fail
    first | (go_region_held3 (fun w'=>w'.cell? ⟨w.heap.size+2,1,none⟩=some (.int .i64 a)∧w'.cell? ⟨w.heap.size+3,2,none⟩=some (.slice (some ⟨gk,ok,none⟩) 1 kc)) (with_reducible first | exact P0 | exact P1 | exact P9) (first | (go_at_call 82;refine (Cd.l3Built_any a h1 h12 _ ([x].drop kc) HLD.out _ (by first | exact HC0.out | exact HC1.out)).mono ?_;rintro e w9 ⟨rfl,hb9⟩;rw [HU.out];have hbz9:Below Z.heap.size Z w9:=⟨hb9.os,hb9.tape,hb9.output,hb9.size,hb9.block⟩;have P9:=HP9.out w9 hbz9))) | fail
    all_goals have hbW9:Below w.heap.size w w9:=hbZ.trans (hbz9.mono hbZ.size)
    all_goals go_wp2_with fail
    all_goals go_ret3
    all_goals exact ⟨⟨.slice (some ⟨w9.heap.size,0,none⟩) 1 1,by (first | rfl | (simp;done) | (simp [*];done) | (simp_all;done) | (simp;omega)),Cd.IntsAt.newZ (Z:=w9) (hs:=[u]) _ _ rfl⟩,by first | exact Cd.Below.new hbW9 _ | exact Below.drew (Cd.Below.new hbW9 _)⟩
  · rw [if_neg hkr] at HC0 HC1
    go_wp2_with fail
    go_at_call 81;refine (Cd.word_any a h1 h12 _).mono ?_;rintro e w' ⟨⟨wd,rfl⟩,rfl⟩;rw [HQ.out]
    go_wp2_with fail
    first | (go_region_held3 (fun w'=>w'.cell? ⟨w.heap.size+2,1,none⟩=some (.int .i64 a)∧w'.cell? ⟨w.heap.size+3,2,none⟩=some (.slice (some ⟨gk,ok,none⟩) 1 kc)) (with_reducible first | exact P0 | exact P1 | exact P9) (first | (go_at_call 82;refine (Cd.l3Built_any a h1 h12 _ ([x].drop r) HLD.out _ (by first | exact HC0.out | exact HC1.out)).mono ?_;rintro e w9 ⟨rfl,hb9⟩;rw [HU.out];have hbz9:Below Z.heap.size Z w9:=⟨hb9.os,hb9.tape,hb9.output,hb9.size,hb9.block⟩;have P9:=HP9.out w9 hbz9))) | fail
    all_goals have hbW9:Below w.heap.size w w9:=hbZ.trans (hbz9.mono hbZ.size)
    all_goals go_wp2_with fail
    all_goals go_ret3
    all_goals exact ⟨⟨.slice (some ⟨w9.heap.size,0,none⟩) 1 1,by (first | rfl | (simp;done) | (simp [*];done) | (simp_all;done) | (simp;omega)),Cd.IntsAt.newZ (Z:=w9) (hs:=[u]) _ _ rfl⟩,by first | exact Cd.Below.new hbW9 _ | exact Below.drew (Cd.Below.new hbW9 _)⟩
set_option maxRecDepth 100000 in
set_option maxHeartbeats 1000000 in
theorem Cd.gives_8A (c:List Cd.Fn) (f:Cd.Fn) (a n:Int) (text:ByteArray) (s k:List Int) (ca ia sa ka:Option Addr) (cc ic sc kc:Nat) (pv:Value) (_hcl:c.length≤60) (_hil:f.ins.length≤50000) (_hsl:s.length≤200) (hkl:k.length=0) (hk600:k.length≤600) (h1:1≤a) (h12:a≤12) (hfew:(Cd.want a).length≤k.length) (hkc:k.length≤kc) (hka:ka=none∨∃ g,ka=some ⟨g,0,none⟩) (w:World) (hS:Cd.IntsAt w.heap.size w (.slice sa s.length sc) s) (hK:Cd.IntsAt w.heap.size w (.slice ka k.length kc) k) :
    Calls Tryz.prog 65 #[.agg #[.slice ca c.length cc],Cd.fnV f pv (.slice ia f.ins.length ic),Cd.insV ⟨8,a,n,text⟩,Cd.shV 1 (.slice sa s.length sc) (.slice ka k.length kc)] w (Cd.GivesIs c f ⟨8,a,n,text⟩ s k w):=by
  obtain ⟨Y1,Y2,Y3,Z,hY1,hY2,hY3,hZ,hs1,hs2,hs3,hbZ,HZs,zc,zf,zi0,zi1,zs1,zs2,HSZ,HKZ⟩:=Cd.pre4 c f 8 a n text s k ca ia sa ka cc ic sc kc pv w hS hK
  clear hS hK
  obtain rfl:k=[]:=List.eq_nil_of_length_eq_zero hkl
  have HT:Hid (Cd.top []=0):=(rfl:Cd.top []=0)
  have HBL:Hid (Cd.below []=0):=(rfl:Cd.below []=0)
  simp only [List.length_nil] at hkc hfew hZ zs2 hk600 HKZ ⊢
  obtain ⟨q,HQ⟩:∃ q,Hid ((Cd.want a).length=q):=⟨_,(rfl:(Cd.want a).length=_)⟩
  rw [HQ.out] at hfew
  have hq3:q≤3:=by
    rw [← HQ.out]
    have h:a=1∨a=2∨a=3∨a=4∨a=5∨a=6∨a=7∨a=8∨a=9∨a=10∨a=11∨a=12:=by omega
    rcases h with rfl | rfl | rfl | rfl | rfl | rfl | rfl | rfl | rfl | rfl | rfl | rfl <;> decide
  have HG:Hid (Cd.gives c f ⟨8,a,n,text⟩ s []=(q,[Cd.built a []],(Cd.built a [] != 0))):=by
    simp only [Hid,Cd.gives]
    rw [if_neg (by decide),if_neg (by decide),if_neg (by decide),if_neg (by decide),if_neg (by decide),if_neg (by decide),if_pos (by decide),if_neg (by rw [HQ.out];simp;omega),Cd.ne_b,HQ.out];simp
  unfold Cd.GivesIs
  rw [HG.out]
  unfold Cd.fnV Cd.insV Cd.shV
  clear HG HSZ HKZ HT HBL
  go_enter Tryz.func65,Tryz.ntmps65
  obtain rfl:q=0:=by omega
  obtain ⟨u,HU⟩:∃ u,Hid (Cd.built a []=u):=⟨_,(rfl:Cd.built a []=_)⟩
  rw [HU.out]
  have hc1:(0:Int)≤(kc:Int):=by omega
  have hw3:wrap64 ((0:Int) - 0)=0:=IntWalk.wrap64_in _ (by omega)
  have hw4:IntKind.i64.wrap ((0:Int) - 0)=0:=by rw [IntWalk.i64_left];exact hw3
  have HP9:Hid (∀ w9,Below Z.heap.size Z w9→(fun w'=>w'.cell? ⟨w.heap.size+2,1,none⟩=some (.int .i64 a)∧w'.cell? ⟨w.heap.size+3,2,none⟩=some (.slice ka 0 kc)) w9):=fun w9 h=>⟨(h.cell (p:=⟨w.heap.size+2,1,none⟩) (by show w.heap.size+2 < _;have:=HZs.out;omega)).trans zi1,(h.cell (p:=⟨w.heap.size+3,2,none⟩) (by show w.heap.size+3 < _;have:=HZs.out;omega)).trans zs2⟩
  have P0:(fun w'=>w'.cell? ⟨w.heap.size+2,1,none⟩=some (.int .i64 a)∧w'.cell? ⟨w.heap.size+3,2,none⟩=some (.slice ka 0 kc)) Z:=⟨zi1,zs2⟩
  have P1:(fun w'=>w'.cell? ⟨w.heap.size+2,1,none⟩=some (.int .i64 a)∧w'.cell? ⟨w.heap.size+3,2,none⟩=some (.slice ka 0 kc)) Z.drew:=P0
  rcases hka with rfl | ⟨gk,rfl⟩
  · by_cases hk0:kc=0
    · subst hk0
      go_wp2_with fail
      go_at_call 81;refine (Cd.word_any a h1 h12 _).mono ?_;rintro e w' ⟨⟨wd,rfl⟩,rfl⟩;rw [HQ.out]
      go_wp2_with fail
      first | (go_region_held (fun w'=>w'.cell? ⟨w.heap.size+2,1,none⟩=some (.int .i64 a)∧w'.cell? ⟨w.heap.size+3,2,none⟩=some (.slice none 0 0)) (with_reducible first | exact P0 | exact P1 | exact P9) (first | (go_at_call 82;refine (Cd.l3Built_any a h1 h12 _ [] (by simp) _ (by exact ⟨_,_,rfl,fun i hi=>by simp at hi⟩)).mono ?_;rintro e w9 ⟨rfl,hb9⟩;rw [HU.out];have hbz9:Below Z.heap.size Z w9:=⟨hb9.os,hb9.tape,hb9.output,hb9.size,hb9.block⟩;have P9:=HP9.out w9 hbz9))) | fail
      all_goals have hbW9:Below w.heap.size w w9:=hbZ.trans (hbz9.mono hbZ.size)
      all_goals go_wp2_with fail
      all_goals go_ret3
      all_goals exact ⟨⟨.slice (some ⟨w9.heap.size,0,none⟩) 1 1,by (first | rfl | (simp;done) | (simp [*];done) | (simp_all;done) | (simp;omega)),Cd.IntsAt.newZ (Z:=w9) (hs:=[u]) _ _ rfl⟩,by first | exact Cd.Below.new hbW9 _ | exact Below.drew (Cd.Below.new hbW9 _)⟩
    · have hkb:(kc == 0)=false:=by simp [hk0]
      go_wp2_with fail
      go_at_call 81;refine (Cd.word_any a h1 h12 _).mono ?_;rintro e w' ⟨⟨wd,rfl⟩,rfl⟩;rw [HQ.out]
      go_wp2_with fail
      first | (go_region_held (fun w'=>w'.cell? ⟨w.heap.size+2,1,none⟩=some (.int .i64 a)∧w'.cell? ⟨w.heap.size+3,2,none⟩=some (.slice none 0 kc)) (with_reducible first | exact P0 | exact P1 | exact P9) (first | (go_at_call 82;refine (Cd.l3Built_any a h1 h12 _ [] (by simp) _ (by exact ⟨_,_,rfl,fun i hi=>by simp at hi⟩)).mono ?_;rintro e w9 ⟨rfl,hb9⟩;rw [HU.out];have hbz9:Below Z.heap.size Z w9:=⟨hb9.os,hb9.tape,hb9.output,hb9.size,hb9.block⟩;have P9:=HP9.out w9 hbz9))) | fail
      all_goals have hbW9:Below w.heap.size w w9:=hbZ.trans (hbz9.mono hbZ.size)
      all_goals go_wp2_with fail
      all_goals go_ret3
      all_goals exact ⟨⟨.slice (some ⟨w9.heap.size,0,none⟩) 1 1,by (first | rfl | (simp;done) | (simp [*];done) | (simp_all;done) | (simp;omega)),Cd.IntsAt.newZ (Z:=w9) (hs:=[u]) _ _ rfl⟩,by first | exact Cd.Below.new hbW9 _ | exact Below.drew (Cd.Below.new hbW9 _)⟩
  · by_cases hk0:kc=0
    · subst hk0
      go_wp2_with fail
      go_at_call 81;refine (Cd.word_any a h1 h12 _).mono ?_;rintro e w' ⟨⟨wd,rfl⟩,rfl⟩;rw [HQ.out]
      go_wp2_with fail
      first | (go_region_held (fun w'=>w'.cell? ⟨w.heap.size+2,1,none⟩=some (.int .i64 a)∧w'.cell? ⟨w.heap.size+3,2,none⟩=some (.slice (some ⟨gk,0,none⟩) 0 0)) (with_reducible first | exact P0 | exact P1 | exact P9) (first | (go_at_call 82;refine (Cd.l3Built_any a h1 h12 _ [] (by simp) _ (by exact ⟨_,_,rfl,fun i hi=>by simp at hi⟩)).mono ?_;rintro e w9 ⟨rfl,hb9⟩;rw [HU.out];have hbz9:Below Z.heap.size Z w9:=⟨hb9.os,hb9.tape,hb9.output,hb9.size,hb9.block⟩;have P9:=HP9.out w9 hbz9))) | fail
      all_goals have hbW9:Below w.heap.size w w9:=hbZ.trans (hbz9.mono hbZ.size)
      all_goals go_wp2_with fail
      all_goals go_ret3
      all_goals exact ⟨⟨.slice (some ⟨w9.heap.size,0,none⟩) 1 1,by (first | rfl | (simp;done) | (simp [*];done) | (simp_all;done) | (simp;omega)),Cd.IntsAt.newZ (Z:=w9) (hs:=[u]) _ _ rfl⟩,by first | exact Cd.Below.new hbW9 _ | exact Below.drew (Cd.Below.new hbW9 _)⟩
    · have hkb:(kc == 0)=false:=by simp [hk0]
      go_wp2_with fail
      go_at_call 81;refine (Cd.word_any a h1 h12 _).mono ?_;rintro e w' ⟨⟨wd,rfl⟩,rfl⟩;rw [HQ.out]
      go_wp2_with fail
      first | (go_region_held (fun w'=>w'.cell? ⟨w.heap.size+2,1,none⟩=some (.int .i64 a)∧w'.cell? ⟨w.heap.size+3,2,none⟩=some (.slice (some ⟨gk,0,none⟩) 0 kc)) (with_reducible first | exact P0 | exact P1 | exact P9) (first | (go_at_call 82;refine (Cd.l3Built_any a h1 h12 _ [] (by simp) _ (by exact ⟨_,_,rfl,fun i hi=>by simp at hi⟩)).mono ?_;rintro e w9 ⟨rfl,hb9⟩;rw [HU.out];have hbz9:Below Z.heap.size Z w9:=⟨hb9.os,hb9.tape,hb9.output,hb9.size,hb9.block⟩;have P9:=HP9.out w9 hbz9))) | fail
      all_goals have hbW9:Below w.heap.size w w9:=hbZ.trans (hbz9.mono hbZ.size)
      all_goals go_wp2_with fail
      all_goals go_ret3
      all_goals exact ⟨⟨.slice (some ⟨w9.heap.size,0,none⟩) 1 1,by (first | rfl | (simp;done) | (simp [*];done) | (simp_all;done) | (simp;omega)),Cd.IntsAt.newZ (Z:=w9) (hs:=[u]) _ _ rfl⟩,by first | exact Cd.Below.new hbW9 _ | exact Below.drew (Cd.Below.new hbW9 _)⟩
end Go.Proofs.YtbkhedpabfanoaaGreatDoor
