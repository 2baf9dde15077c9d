import Derived.Test.YtfoimmnlojjfbaaGreatDoorKTk
import Derived.Test.YtfoimmnlojjfbaaGreatDoorKTkK
set_option maxRecDepth 100000
set_option maxHeartbeats 8000000
namespace Go.Proofs.YtfoimmnlojjfbaaGreatDoor
open Go.RowKit
theorem Tk.nd_app (l r:List Mill.Nd):Mill.ndCs (l++r)=Mill.ndCs l++Mill.ndCs r:=by rw [Mill.ndCs,List.flatMap_append];rfl
theorem Tk.add_at (g i j:Nat):(⟨g,i,none⟩:Addr).add j=⟨g,i+j,none⟩:=by unfold Addr.add;split <;> simp_all
theorem Tk.src_cut {A K n c g i m:Nat} {W:World} (h:Gn.Row A W (.slice (some ⟨g,0,none⟩) n c) K) (him:i+m≤n):∃ l:List Mill.Nd,l.length=m∧(∀ d ∈ l,d.text.size≤100)∧Gn.Src W (some ⟨g,i * 6,none⟩) m (Mill.ndCs l):=by
 obtain ⟨l,h1,h2,h3⟩:=h
 obtain ⟨a4,c4,e4⟩:=Gn.rowLen h3
 injection e4 with e41 e42 e43
 subst e42
 refine ⟨(l.drop i).take m,by rw [List.length_take,List.length_drop];omega,fun d hd=>h2 d (List.mem_of_mem_drop (List.mem_of_mem_take hd)),fun _=>⟨_,rfl,fun j u hu => ?_⟩⟩
 have e0:l=l.take i++((l.drop i).take m++(l.drop i).drop m):=by rw [List.take_append_drop,List.take_append_drop]
 have e1:(Mill.ndCs l)[i * 6+j]? = some u:=by
  rw [e0,Tk.nd_app,Tk.nd_app,List.getElem?_append_right (by rw [Gn.nd_len,List.length_take];omega),Gn.nd_len,List.length_take,Nat.min_eq_left (by omega),Nat.add_sub_cancel_left]
  have hj:j < (Mill.ndCs ((l.drop i).take m)).length:=(List.getElem?_eq_some_iff.1 hu).1
  rw [List.getElem?_append_left hj,hu]
 rw [Tk.add_at]
 exact Gn.own_cells h3 rfl _ _ e1
theorem Tk.step_nodes {V:World} {ops:Array Oper} {o:Oper} {a:Act} {K:Act→World→Prop} {Q:Exit→Act→World→Prop} {E:Prop} (hgd:o.guard=none) (s x:Operand)
  (ho:o.op = .call { callee:=.builtin .append,args := #[s,x],argTypes := #[71,71] }) {A1 K1 dn dc sn sc:Nat} {da sa:Option Addr} (h1:Gn.Row A1 V (.slice da dn dc) K1) {l2:List Mill.Nd} (hl2:l2.length=sn) (q2:∀ d ∈ l2,d.text.size≤100) (hsrc:Gn.Src V sa sn (Mill.ndCs l2)) (hA:A1≤V.heap.size) (hK:K1+sn≤1000000000)
  (hs:a.eval s = .slice da dn dc) (hx:a.eval x = .slice sa sn sc)
  (h:∀ a' n' c' w',Gn.Row A1 w' (.slice a' n' c') (K1+sn)→(∀ U:World,U.heap.size≤A1→Below U.heap.size U V→Below U.heap.size U w')→K (a.put o.dst (.slice a' n' c')) w') :
  if Region.wanted o (yielded ops a.tmps)=true then Oper.wp Tryz.prog o a V K Q else E:=by
 have hwt:Region.wanted o (yielded ops a.tmps)=true:=by simp [Region.wanted,hgd]
 rw [if_pos hwt]
 obtain ⟨i0,hi0,hy0,hy1,hy2⟩:=info_parts Gn.infoNode
 obtain ⟨l1,p1,p2,p3⟩:=h1
 obtain ⟨a4,c4,e4⟩:=Gn.rowLen p3
 injection e4 with e41 e42 e43
 subst e41;subst e42;subst e43
 subst hl2
 obtain ⟨v6,w6,hr,hown6,hg6⟩:=Gn.run_append_any (P:=Tryz.prog) (w:=V) A1 71 o.type 106 i0 (.agg #[.int .i64 0,.int .i64 0,.int .i64 0,.int .i64 0,.string ⟨#[]⟩,.int .i64 0]) 6 56 Tryz.underlying71 hi0 hy0 hy1 hy2 rfl (by decide) _ _ _ p3 sa l2.length sc (Mill.ndCs l2) (Gn.nd_len l2) hsrc (Gn.nd_one l2) (by unfold maxLen;omega) (by omega) hA
 obtain ⟨a7,c7,e7⟩:=Gn.rowLen hown6
 subst e7
 unfold Oper.wp execOp
 simp only [ho,resolve,invoke,builtin,Sem.run_bind,Sem.run_pure,Result.andThen_ok,List.map_toArray,List.map_cons,List.map_nil,hs,hx,hr]
 refine h a7 _ c7 w6 ⟨l1++l2, ?_, ?_, ?_⟩ (fun U hU hb => ?_)
 ·rw [List.length_append];omega
 ·intro y hy
  rcases List.mem_append.1 hy with hy | hy
  ·exact p2 y hy
  ·exact q2 y hy
 ·rw [List.length_append,Tk.nd_app];exact hown6
 ·refine ⟨hg6.os.trans hb.os,hg6.tape.trans hb.tape,hg6.output.trans hb.output,Nat.le_trans hb.size hg6.size,fun k hk=>(hg6.block k (Nat.lt_of_lt_of_le hk hb.size) (fun e => ?_)).trans (hb.block k hk)⟩
  have:=(Gn.row_type p3 e.symm).1.1
  omega
theorem Tk.Sp.fin12 {R P:Nat} {w0 w W Z:World} {b4 b5 b8 g n c n' c':Nat} {a:Option Addr} (h:Tk.Sp R P w0 w W b4 b5 b8 g n c) (hb:Below W.heap.size W Z) (hr:Gn.Row W.heap.size Z (.slice a n' c') 300000000):Tk.WPost R P 300000000 w0 w (.returned (.agg #[.slice a n' c'])) ((Z.setCell ⟨b5,0,none⟩ (.slice a n' c')).setCell ⟨b4,0,none⟩ (.slice a n' c')):=by
 have h':=h.below hb
 obtain ⟨k1,k2⟩:=Tk.set_frame (i:=0) (v:=.slice a n' c') h'.dw h'.fw h.lo.2.1 h.rd
 obtain ⟨k3,k4⟩:=Tk.set_frame (i:=0) (v:=.slice a n' c') k1 k2 h.lo.1 h.rd
 have z4:b4 < W.heap.size:=(Array.getElem?_eq_some_iff.1 h.res).1
 have z5:b5 < W.heap.size:=(Array.getElem?_eq_some_iff.1 h.out).1
 obtain ⟨l,r1,r2,r3⟩:=hr
 have r4:(Z.setCell ⟨b5,0,none⟩ (.slice a n' c')).ownsRow w.heap.size 106 6 (.slice a n' c') l.length (Mill.ndCs l):=Gn.own_keep (Gn.own_mono r3 h.fw.size) (fun k hk _ _=>by
  have:=(Gn.row_type r3 hk).1.1
  exact Gn.set_oth (by omega))
 exact ⟨_,_,_,rfl,⟨l,r1,r2,Gn.own_keep r4 (fun k hk _ _=>by
  have:=(Gn.row_type r3 hk).1.1
  exact Gn.set_oth (by omega))⟩,k3,k4⟩
theorem Tk.spoil_12 {R P b4 b5 b8 g n1 c1 k:Nat} {w0 w w4:World} {v1 v2 v3 v9 v10 v11 v12 v13 v14 v15 v16 v17 v18 v19 v20 v21 v22 v23 v24 v25 v26 v27 v28 v29 v30 v31 v32 v33 v34 v35 v36 v37 v38 v39 v40 v41 v42 v43 v45 v46 v47 v48 v49 v50 v51 v52 v53 v54 v55 v56 v57 v58 v59 v60 v61 v62 v63 v64 v65 v66 v67 v68 v69 v70 v71 v72 v73 v74 v75 v76 v77 v78 v79 v80 v81 v82 v83 v84 v85 v86 v87 v88 v89 v90 v91 v92 v93 v94 v95 v96 v97 v98 v99 v100 v101 v102 v103 v104 v105 v106 v107 v108 v109 v110 v111 v112 v113 v114 v115 v116 v117 v118 v119 v120 v121 v122 v123 v124 v125 v126 v127 v128 v129 v130 v131 v132 v133 v134 v135 v136 v137 v138 v139 v140 v141 v142 v143 v144 v145 v146 v147 v148 v149 v150 v151 v152 v153 v154 v155 v156 v157 v158 v159 v160 v161 v162 v163 v164 v165 v166 v167 v168 v169 v170 v171 v172 v173 v174 v175 v176 v177 v178 v179 v180 v181 v182 v183 v184 v185 v186 v187 v188 v189 v190 v191 v192 v193 v194 v195 v196 v197 v198 v199 v200 v201 v202 v203 v204 v205 v206 v207 v208 v209 v210 v211 v212 v213 v214 v215 v216 v217 v218 v219 v220 v221 v222 v223 v224 v225 v226 v227 v228 v229 v230 v231 v232 v233 v234 v235 v236 v237 v238 v239 v240 v241 v242 v243 v244 v245 v246 v247 v248 v249 v250 v251 v252 v253 v254 v255 v256 v257 v258 v259 v260 v261 v262 v263 v264 v265 v266 v267 v268 v269 v270 v271 v272 v273 v274 v275 v276 v277 v278 v279 v280 v281 v282 v283 v284 v285 v286 v287 v288 v289 v290 v291 v292 v293 v294 v295 v296 v297 v298 v299 v300 v301 v302 v303 v304 v305 v306 v307 v308 v309 v310 v311 v312 v313 v314 v315 v316 v317 v318 v319 v320 v321 v322 v323 v324 v325 v326 v327 v328 v329 v330 v331 v332 v333 v334 v335 v336 v337 v338 v339 v340 v341 v342 v343 v344 v345 v346 v347 v348 v349 v350 v351 v352 v353:Value} {K:Act→World→Prop} (HSP4:Hid (Tk.Sp R (P+1+1+1) w0 w w4 b4 b5 b8 g n1 c1)) (_hP:P≤800000000) (hnn:n1≤300000000) (hk2:k < n1) (_hK:∀ a w',Code.wp Tryz.prog Tk.swBoth.2 (bodyPost Tryz.prog Tryz.f63 (Tk.WPost R (P+5) 300000000 w0 w)) a w'→K a w') :
  Code.wp Tryz.prog Tk.swBoth.1 (Exit.then K (bodyPost Tryz.prog Tryz.f63 (Tk.WPost R (P+5) 300000000 w0 w))) ⟨List.toArray (.pointer (some ⟨R,0,none⟩)::v1::v2::v3 :: .pointer (some ⟨b4,0,none⟩) :: .pointer (some ⟨b5,0,none⟩) :: .int .i64 (n1:Int) :: .int .i64 (k:Int) :: .pointer (some ⟨b8,0,none⟩)::v9::v10::v11::v12::v13::v14::v15::v16::v17::v18::v19::v20::v21::v22::v23::v24::v25::v26::v27::v28::v29::v30::v31::v32::v33::v34::v35::v36::v37::v38::v39::v40::v41::v42::v43 :: .int .i64 12::v45::v46::v47::v48::v49::v50::v51::v52::v53::v54::v55::v56::v57::v58::v59::v60::v61::v62::v63::v64::v65::v66::v67::v68::v69::v70::v71::v72::v73::v74::v75::v76::v77::v78::v79::v80::v81::v82::v83::v84::v85::v86::v87::v88::v89::v90::v91::v92::v93::v94::v95::v96::v97::v98::v99::v100::v101::v102::v103::v104::v105::v106::v107::v108::v109::v110::v111::v112::v113::v114::v115::v116::v117::v118::v119::v120::v121::v122::v123::v124::v125::v126::v127::v128::v129::v130::v131::v132::v133::v134::v135::v136::v137::v138::v139::v140::v141::v142::v143::v144::v145::v146::v147::v148::v149::v150::v151::v152::v153::v154::v155::v156::v157::v158::v159::v160::v161::v162::v163::v164::v165::v166::v167::v168::v169::v170::v171::v172::v173::v174::v175::v176::v177::v178::v179::v180::v181::v182::v183::v184::v185::v186::v187::v188::v189::v190::v191::v192::v193::v194::v195::v196::v197::v198::v199::v200::v201::v202::v203::v204::v205::v206::v207::v208::v209::v210::v211::v212::v213::v214::v215::v216::v217::v218::v219::v220::v221::v222::v223::v224::v225::v226::v227::v228::v229::v230::v231::v232::v233::v234::v235::v236::v237::v238::v239::v240::v241::v242::v243::v244::v245::v246::v247::v248::v249::v250::v251::v252::v253::v254::v255::v256::v257::v258::v259::v260::v261::v262::v263::v264::v265::v266::v267::v268::v269::v270::v271::v272::v273::v274::v275::v276::v277::v278::v279::v280::v281::v282::v283::v284::v285::v286::v287::v288::v289::v290::v291::v292::v293::v294::v295::v296::v297::v298::v299::v300::v301::v302::v303::v304::v305::v306::v307::v308::v309::v310::v311::v312::v313::v314::v315::v316::v317::v318::v319::v320::v321::v322::v323::v324::v325::v326::v327::v328::v329::v330::v331::v332::v333::v334::v335::v336::v337::v338::v339::v340::v341::v342::v343::v344::v345::v346::v347::v348::v349::v350::v351::v352::v353::[]),[]⟩ w4:=by
 have hnz2:¬ ((n1:Int)=0):=by omega
 have hnb:((n1:Int) == 0)=false:=by simpa using hnz2
 have hz4:b4 < w4.heap.size:=(Array.getElem?_eq_some_iff.1 HSP4.out.res).1
 have hnc:n1≤c1:=Tk.Row_cap HSP4.out.row
 have hkc:k≤c1:=by omega
 have hwk:wrap64 ((k:Int)+1)=(k:Int)+1:=IntWalk.wrap64_in _ (by omega)
 have hwi:IntKind.i64.wrap ((k:Int)+1)=(k:Int)+1:=(IntWalk.i64_left _).trans hwk
 have hbD:Below w4.heap.size w4 w4.drew:=(Below.refl _ _).drew
 have hbA:Below w4.heap.size w4 (w4.alloc (.cells #[] 106)).drew:=(Tk.up1 w4 _).drew
 obtain ⟨sa,hsa⟩:∃ sa,(if c1=k+1 then some (⟨g,0,none⟩:Addr) else some ⟨g,(k+1) * 6,none⟩)=sa:=⟨_,rfl⟩
 have HE:Gn.Row w4.heap.size (w4.alloc (.cells #[] 106)).drew (.slice (some ⟨w4.heap.size,0,none⟩) 0 0) 0:=Tk.Row_below (Tk.empty_row w4) (Below.refl _ _).drew
 obtain ⟨p4,_,_,_,_,_⟩:=HSP4.out.cells
 obtain ⟨pD,_,_,_,_,_⟩:=(HSP4.out.below hbD).cells
 obtain ⟨pA,_,_,_,_,_⟩:=(HSP4.out.below hbA).cells
 conv at _hK=>enter [a,w'];arg 1;arg 2;whnf
 conv=>arg 2;whnf
 go_wp2_with fail
 refine wp_region_held_drew (S:=(fun _=>True)) (by kernel_rfl) (trivial) (fun hHeld => ?_)
 refine Tk 1 (.pointer (some ⟨b5,0,none⟩)) rfl ?_
 try simp [Act.put]
 refine Tk 3 (.int .i64 (k:Int)) rfl ?_
 try simp [Act.put]
 refine Tk 6 (.pointer (some ⟨b5,0,none⟩)) rfl ?_
 try simp [Act.put]
 refine Tk 8 (.int .i64 (k:Int)) rfl ?_
 try simp [Act.put]
 refine Tk 9 (.int .i64 ((k:Int)+1)) rfl ?_
 try simp [Act.put]
 refine wpAnyH_ready (rs:=[0,2,7]) (by kernel_rfl) (by simp) ?_
 refine AllReadyH.cons rfl (fun KK hK => ?_) (AllReadyH.cons rfl (fun KK hK => ?_) (AllReadyH.cons rfl (fun KK hK => ?_) AllReadyH.nil))
 ·go_simp
  refine hK.out _ _ (trivial) (fun hHeld => ?_)
  clear hK
  try simp [Act.put]
  refine wpAnyH_ready (rs:=[2,7]) (by kernel_rfl) (by simp) ?_
  refine AllReadyH.cons rfl (fun KK hK => ?_) (AllReadyH.cons rfl (fun KK hK => ?_) AllReadyH.nil)
  ·go_simp
   refine hK.out _ _ (trivial) (fun hHeld => ?_)
   clear hK
   try simp [Act.put]
   refine Tk 4 (.slice (some ⟨g,0,none⟩) k c1) rfl ?_
   try simp [Act.put]
   refine wpAnyH_ready (rs:=[5,7]) (by kernel_rfl) (by simp) ?_
   refine AllReadyH.cons rfl (fun KK hK => ?_) (AllReadyH.cons rfl (fun KK hK => ?_) AllReadyH.nil)
   ·obtain ⟨l1,hl1,ht1,hs1⟩:=Tk.src_cut (i:=0) (m:=k) (HSP4.out.below hbA).row (by omega)
    refine Tk.step_nodes rfl (.tmp 334) (.tmp 338) rfl (A1:=w4.heap.size) (K1:=0) HE hl1 ht1 (by simpa using hs1) hbA.size (by omega) rfl rfl ?_
    intro a5 n5 c5 W5 HR5 hB5
    have hb5:Below w4.heap.size w4 W5:=hB5 w4 (Nat.le_refl _) hbA
    obtain ⟨p5,_,_,_,_,_⟩:=(HSP4.out.below hb5).cells
    refine hK.out _ _ (trivial) (fun hHeld => ?_)
    clear hK
    try simp [Act.put]
    refine wpAnyH_ready (rs:=[7]) (by kernel_rfl) (by simp) ?_
    refine AllReadyH.cons rfl (fun KK hK => ?_) AllReadyH.nil
    go_simp
    refine hK.out _ _ (trivial) (fun hHeld => ?_)
    clear hK
    try simp [Act.put]
    refine wpAnyH_take (i:=10) (v:=.slice sa (n1 - (k+1)) (c1 - (k+1))) rfl (by kernel_rfl) (by kernel_rfl) (by kernel_rfl) (fun _ _ _ h=>h) (Or.inl ⟨by rfl,by intro w hSw;go_simp;intro hq;have:=hq (by omega);omega⟩) (by assumption) ?_
    try simp [Act.put]
    refine wpAnyH_ready (rs:=[11]) (by kernel_rfl) (by simp) ?_
    refine AllReadyH.cons rfl (fun KK hK => ?_) AllReadyH.nil
    obtain ⟨l2,hl2,ht2,hs2⟩:=Tk.src_cut (i:=k+1) (m:=n1 - (k+1)) (HSP4.out.below hb5).row (by omega)
    refine Tk.step_nodes rfl (.tmp 339) (.tmp 344) rfl (A1:=w4.heap.size) (K1:=0+k) HR5 hl2 ht2 (fun h0=>by rw [← hsa,if_neg (by omega)];exact hs2 h0) hb5.size (by omega) rfl rfl ?_
    intro a6 n6 c6 W6 HR6 hB6
    have hb6:Below w4.heap.size w4 W6:=hB6 w4 (Nat.le_refl _) hb5
    obtain ⟨p6,q6,f6,f7,_,_⟩:=(HSP4.out.below hb6).cells
    obtain ⟨Y,hY⟩:∃ Y,W6.setCell ⟨b5,0,none⟩ (.slice a6 n6 c6)=Y:=⟨_,rfl⟩
    have HF:Hid (Tk.WPost R (P+5) 300000000 w0 w (.returned (.agg #[.slice a6 n6 c6])) (Y.setCell ⟨b4,0,none⟩ (.slice a6 n6 c6))):=(by rw [← hY];exact (HSP4.out.mono (by omega)).fin12 hb6 (HR6.mono (Nat.le_refl _) (by omega)))
    have hY4:Y.heap[b4]? = some (.cells #[.slice none 0 0] 73):=(by rw [← hY];exact (Gn.set_oth HSP4.out.ne1).trans (HSP4.out.below hb6).res)
    have hY5:Y.heap[b5]? = some (.cells #[.slice a6 n6 c6] 73):=(by rw [← hY];exact Tk.heap_set (HSP4.out.below hb6).out)
    have y4:Y.cell? ⟨b4,0,none⟩=some (.slice none 0 0):=(by rw [Lib.cell_of_heap hY4];rfl)
    have y5:Y.cell? ⟨b5,0,none⟩=some (.slice a6 n6 c6):=(by rw [Lib.cell_of_heap hY5];rfl)
    have yf:Y.frozen? ⟨b4,0,none⟩=false:=(by simp [World.frozen?,hY4])
    clear hY4 hY5
    refine hK.out _ _ (trivial) (fun hHeld => ?_)
    clear hK
    try simp [Act.put]
    refine Tk 12 (.pointer (some ⟨b5,0,none⟩)) rfl ?_
    try simp [Act.put]
    refine wpAnyH_ready (rs:=[13]) (by kernel_rfl) (by simp) ?_
    refine AllReadyH.cons rfl (fun KK hK => ?_) AllReadyH.nil
    go_simp
    refine hK.out _ _ (trivial) (fun hHeld => ?_)
    clear hK
    try simp [Act.put]
    refine wpAnyH_done (by kernel_rfl) ?_ _
    go_wp2_with fail
    exact bodyPost_ret (v:=.agg #[.slice a6 n6 c6]) (by simp [results,Tryz.results63,go_sem,y4]) rfl HF.out
   ·go_simp
    refine hK.out _ _ (trivial) (fun hHeld => ?_)
    clear hK
    try simp [Act.put]
    refine wpAnyH_take (i:=10) (v:=.slice sa (n1 - (k+1)) (c1 - (k+1))) rfl (by kernel_rfl) (by kernel_rfl) (by kernel_rfl) (fun _ _ _ h=>h) (Or.inl ⟨by rfl,by intro w hSw;go_simp;intro hq;have:=hq (by omega);omega⟩) (by assumption) ?_
    try simp [Act.put]
    refine wpAnyH_ready (rs:=[5]) (by kernel_rfl) (by simp) ?_
    refine AllReadyH.cons rfl (fun KK hK => ?_) AllReadyH.nil
    obtain ⟨l1,hl1,ht1,hs1⟩:=Tk.src_cut (i:=0) (m:=k) (HSP4.out.below hbA).row (by omega)
    refine Tk.step_nodes rfl (.tmp 334) (.tmp 338) rfl (A1:=w4.heap.size) (K1:=0) HE hl1 ht1 (by simpa using hs1) hbA.size (by omega) rfl rfl ?_
    intro a5 n5 c5 W5 HR5 hB5
    have hb5:Below w4.heap.size w4 W5:=hB5 w4 (Nat.le_refl _) hbA
    obtain ⟨p5,_,_,_,_,_⟩:=(HSP4.out.below hb5).cells
    refine hK.out _ _ (trivial) (fun hHeld => ?_)
    clear hK
    try simp [Act.put]
    refine wpAnyH_ready (rs:=[11]) (by kernel_rfl) (by simp) ?_
    refine AllReadyH.cons rfl (fun KK hK => ?_) AllReadyH.nil
    obtain ⟨l2,hl2,ht2,hs2⟩:=Tk.src_cut (i:=k+1) (m:=n1 - (k+1)) (HSP4.out.below hb5).row (by omega)
    refine Tk.step_nodes rfl (.tmp 339) (.tmp 344) rfl (A1:=w4.heap.size) (K1:=0+k) HR5 hl2 ht2 (fun h0=>by rw [← hsa,if_neg (by omega)];exact hs2 h0) hb5.size (by omega) rfl rfl ?_
    intro a6 n6 c6 W6 HR6 hB6
    have hb6:Below w4.heap.size w4 W6:=hB6 w4 (Nat.le_refl _) hb5
    obtain ⟨p6,q6,f6,f7,_,_⟩:=(HSP4.out.below hb6).cells
    obtain ⟨Y,hY⟩:∃ Y,W6.setCell ⟨b5,0,none⟩ (.slice a6 n6 c6)=Y:=⟨_,rfl⟩
    have HF:Hid (Tk.WPost R (P+5) 300000000 w0 w (.returned (.agg #[.slice a6 n6 c6])) (Y.setCell ⟨b4,0,none⟩ (.slice a6 n6 c6))):=(by rw [← hY];exact (HSP4.out.mono (by omega)).fin12 hb6 (HR6.mono (Nat.le_refl _) (by omega)))
    have hY4:Y.heap[b4]? = some (.cells #[.slice none 0 0] 73):=(by rw [← hY];exact (Gn.set_oth HSP4.out.ne1).trans (HSP4.out.below hb6).res)
    have hY5:Y.heap[b5]? = some (.cells #[.slice a6 n6 c6] 73):=(by rw [← hY];exact Tk.heap_set (HSP4.out.below hb6).out)
    have y4:Y.cell? ⟨b4,0,none⟩=some (.slice none 0 0):=(by rw [Lib.cell_of_heap hY4];rfl)
    have y5:Y.cell? ⟨b5,0,none⟩=some (.slice a6 n6 c6):=(by rw [Lib.cell_of_heap hY5];rfl)
    have yf:Y.frozen? ⟨b4,0,none⟩=false:=(by simp [World.frozen?,hY4])
    clear hY4 hY5
    refine hK.out _ _ (trivial) (fun hHeld => ?_)
    clear hK
    try simp [Act.put]
    refine Tk 12 (.pointer (some ⟨b5,0,none⟩)) rfl ?_
    try simp [Act.put]
    refine wpAnyH_ready (rs:=[13]) (by kernel_rfl) (by simp) ?_
    refine AllReadyH.cons rfl (fun KK hK => ?_) AllReadyH.nil
    go_simp
    refine hK.out _ _ (trivial) (fun hHeld => ?_)
    clear hK
    try simp [Act.put]
    refine wpAnyH_done (by kernel_rfl) ?_ _
    go_wp2_with fail
    exact bodyPost_ret (v:=.agg #[.slice a6 n6 c6]) (by simp [results,Tryz.results63,go_sem,y4]) rfl HF.out
  ·go_simp
   refine hK.out _ _ (trivial) (fun hHeld => ?_)
   clear hK
   try simp [Act.put]
   refine wpAnyH_take (i:=10) (v:=.slice sa (n1 - (k+1)) (c1 - (k+1))) rfl (by kernel_rfl) (by kernel_rfl) (by kernel_rfl) (fun _ _ _ h=>h) (Or.inl ⟨by rfl,by intro w hSw;go_simp;intro hq;have:=hq (by omega);omega⟩) (by assumption) ?_
   try simp [Act.put]
   refine wpAnyH_ready (rs:=[2]) (by kernel_rfl) (by simp) ?_
   refine AllReadyH.cons rfl (fun KK hK => ?_) AllReadyH.nil
   go_simp
   refine hK.out _ _ (trivial) (fun hHeld => ?_)
   clear hK
   try simp [Act.put]
   refine Tk 4 (.slice (some ⟨g,0,none⟩) k c1) rfl ?_
   try simp [Act.put]
   refine wpAnyH_ready (rs:=[5]) (by kernel_rfl) (by simp) ?_
   refine AllReadyH.cons rfl (fun KK hK => ?_) AllReadyH.nil
   obtain ⟨l1,hl1,ht1,hs1⟩:=Tk.src_cut (i:=0) (m:=k) (HSP4.out.below hbA).row (by omega)
   refine Tk.step_nodes rfl (.tmp 334) (.tmp 338) rfl (A1:=w4.heap.size) (K1:=0) HE hl1 ht1 (by simpa using hs1) hbA.size (by omega) rfl rfl ?_
   intro a5 n5 c5 W5 HR5 hB5
   have hb5:Below w4.heap.size w4 W5:=hB5 w4 (Nat.le_refl _) hbA
   obtain ⟨p5,_,_,_,_,_⟩:=(HSP4.out.below hb5).cells
   refine hK.out _ _ (trivial) (fun hHeld => ?_)
   clear hK
   try simp [Act.put]
   refine wpAnyH_ready (rs:=[11]) (by kernel_rfl) (by simp) ?_
   refine AllReadyH.cons rfl (fun KK hK => ?_) AllReadyH.nil
   obtain ⟨l2,hl2,ht2,hs2⟩:=Tk.src_cut (i:=k+1) (m:=n1 - (k+1)) (HSP4.out.below hb5).row (by omega)
   refine Tk.step_nodes rfl (.tmp 339) (.tmp 344) rfl (A1:=w4.heap.size) (K1:=0+k) HR5 hl2 ht2 (fun h0=>by rw [← hsa,if_neg (by omega)];exact hs2 h0) hb5.size (by omega) rfl rfl ?_
   intro a6 n6 c6 W6 HR6 hB6
   have hb6:Below w4.heap.size w4 W6:=hB6 w4 (Nat.le_refl _) hb5
   obtain ⟨p6,q6,f6,f7,_,_⟩:=(HSP4.out.below hb6).cells
   obtain ⟨Y,hY⟩:∃ Y,W6.setCell ⟨b5,0,none⟩ (.slice a6 n6 c6)=Y:=⟨_,rfl⟩
   have HF:Hid (Tk.WPost R (P+5) 300000000 w0 w (.returned (.agg #[.slice a6 n6 c6])) (Y.setCell ⟨b4,0,none⟩ (.slice a6 n6 c6))):=(by rw [← hY];exact (HSP4.out.mono (by omega)).fin12 hb6 (HR6.mono (Nat.le_refl _) (by omega)))
   have hY4:Y.heap[b4]? = some (.cells #[.slice none 0 0] 73):=(by rw [← hY];exact (Gn.set_oth HSP4.out.ne1).trans (HSP4.out.below hb6).res)
   have hY5:Y.heap[b5]? = some (.cells #[.slice a6 n6 c6] 73):=(by rw [← hY];exact Tk.heap_set (HSP4.out.below hb6).out)
   have y4:Y.cell? ⟨b4,0,none⟩=some (.slice none 0 0):=(by rw [Lib.cell_of_heap hY4];rfl)
   have y5:Y.cell? ⟨b5,0,none⟩=some (.slice a6 n6 c6):=(by rw [Lib.cell_of_heap hY5];rfl)
   have yf:Y.frozen? ⟨b4,0,none⟩=false:=(by simp [World.frozen?,hY4])
   clear hY4 hY5
   refine hK.out _ _ (trivial) (fun hHeld => ?_)
   clear hK
   try simp [Act.put]
   refine Tk 12 (.pointer (some ⟨b5,0,none⟩)) rfl ?_
   try simp [Act.put]
   refine wpAnyH_ready (rs:=[13]) (by kernel_rfl) (by simp) ?_
   refine AllReadyH.cons rfl (fun KK hK => ?_) AllReadyH.nil
   go_simp
   refine hK.out _ _ (trivial) (fun hHeld => ?_)
   clear hK
   try simp [Act.put]
   refine wpAnyH_done (by kernel_rfl) ?_ _
   go_wp2_with fail
   exact bodyPost_ret (v:=.agg #[.slice a6 n6 c6]) (by simp [results,Tryz.results63,go_sem,y4]) rfl HF.out
 ·go_simp
  refine hK.out _ _ (trivial) (fun hHeld => ?_)
  clear hK
  try simp [Act.put]
  refine Tk 4 (.slice (some ⟨g,0,none⟩) k c1) rfl ?_
  try simp [Act.put]
  refine wpAnyH_ready (rs:=[0,7]) (by kernel_rfl) (by simp) ?_
  refine AllReadyH.cons rfl (fun KK hK => ?_) (AllReadyH.cons rfl (fun KK hK => ?_) AllReadyH.nil)
  ·go_simp
   refine hK.out _ _ (trivial) (fun hHeld => ?_)
   clear hK
   try simp [Act.put]
   refine wpAnyH_ready (rs:=[5,7]) (by kernel_rfl) (by simp) ?_
   refine AllReadyH.cons rfl (fun KK hK => ?_) (AllReadyH.cons rfl (fun KK hK => ?_) AllReadyH.nil)
   ·obtain ⟨l1,hl1,ht1,hs1⟩:=Tk.src_cut (i:=0) (m:=k) (HSP4.out.below hbA).row (by omega)
    refine Tk.step_nodes rfl (.tmp 334) (.tmp 338) rfl (A1:=w4.heap.size) (K1:=0) HE hl1 ht1 (by simpa using hs1) hbA.size (by omega) rfl rfl ?_
    intro a5 n5 c5 W5 HR5 hB5
    have hb5:Below w4.heap.size w4 W5:=hB5 w4 (Nat.le_refl _) hbA
    obtain ⟨p5,_,_,_,_,_⟩:=(HSP4.out.below hb5).cells
    refine hK.out _ _ (trivial) (fun hHeld => ?_)
    clear hK
    try simp [Act.put]
    refine wpAnyH_ready (rs:=[7]) (by kernel_rfl) (by simp) ?_
    refine AllReadyH.cons rfl (fun KK hK => ?_) AllReadyH.nil
    go_simp
    refine hK.out _ _ (trivial) (fun hHeld => ?_)
    clear hK
    try simp [Act.put]
    refine wpAnyH_take (i:=10) (v:=.slice sa (n1 - (k+1)) (c1 - (k+1))) rfl (by kernel_rfl) (by kernel_rfl) (by kernel_rfl) (fun _ _ _ h=>h) (Or.inl ⟨by rfl,by intro w hSw;go_simp;intro hq;have:=hq (by omega);omega⟩) (by assumption) ?_
    try simp [Act.put]
    refine wpAnyH_ready (rs:=[11]) (by kernel_rfl) (by simp) ?_
    refine AllReadyH.cons rfl (fun KK hK => ?_) AllReadyH.nil
    obtain ⟨l2,hl2,ht2,hs2⟩:=Tk.src_cut (i:=k+1) (m:=n1 - (k+1)) (HSP4.out.below hb5).row (by omega)
    refine Tk.step_nodes rfl (.tmp 339) (.tmp 344) rfl (A1:=w4.heap.size) (K1:=0+k) HR5 hl2 ht2 (fun h0=>by rw [← hsa,if_neg (by omega)];exact hs2 h0) hb5.size (by omega) rfl rfl ?_
    intro a6 n6 c6 W6 HR6 hB6
    have hb6:Below w4.heap.size w4 W6:=hB6 w4 (Nat.le_refl _) hb5
    obtain ⟨p6,q6,f6,f7,_,_⟩:=(HSP4.out.below hb6).cells
    obtain ⟨Y,hY⟩:∃ Y,W6.setCell ⟨b5,0,none⟩ (.slice a6 n6 c6)=Y:=⟨_,rfl⟩
    have HF:Hid (Tk.WPost R (P+5) 300000000 w0 w (.returned (.agg #[.slice a6 n6 c6])) (Y.setCell ⟨b4,0,none⟩ (.slice a6 n6 c6))):=(by rw [← hY];exact (HSP4.out.mono (by omega)).fin12 hb6 (HR6.mono (Nat.le_refl _) (by omega)))
    have hY4:Y.heap[b4]? = some (.cells #[.slice none 0 0] 73):=(by rw [← hY];exact (Gn.set_oth HSP4.out.ne1).trans (HSP4.out.below hb6).res)
    have hY5:Y.heap[b5]? = some (.cells #[.slice a6 n6 c6] 73):=(by rw [← hY];exact Tk.heap_set (HSP4.out.below hb6).out)
    have y4:Y.cell? ⟨b4,0,none⟩=some (.slice none 0 0):=(by rw [Lib.cell_of_heap hY4];rfl)
    have y5:Y.cell? ⟨b5,0,none⟩=some (.slice a6 n6 c6):=(by rw [Lib.cell_of_heap hY5];rfl)
    have yf:Y.frozen? ⟨b4,0,none⟩=false:=(by simp [World.frozen?,hY4])
    clear hY4 hY5
    refine hK.out _ _ (trivial) (fun hHeld => ?_)
    clear hK
    try simp [Act.put]
    refine Tk 12 (.pointer (some ⟨b5,0,none⟩)) rfl ?_
    try simp [Act.put]
    refine wpAnyH_ready (rs:=[13]) (by kernel_rfl) (by simp) ?_
    refine AllReadyH.cons rfl (fun KK hK => ?_) AllReadyH.nil
    go_simp
    refine hK.out _ _ (trivial) (fun hHeld => ?_)
    clear hK
    try simp [Act.put]
    refine wpAnyH_done (by kernel_rfl) ?_ _
    go_wp2_with fail
    exact bodyPost_ret (v:=.agg #[.slice a6 n6 c6]) (by simp [results,Tryz.results63,go_sem,y4]) rfl HF.out
   ·go_simp
    refine hK.out _ _ (trivial) (fun hHeld => ?_)
    clear hK
    try simp [Act.put]
    refine wpAnyH_take (i:=10) (v:=.slice sa (n1 - (k+1)) (c1 - (k+1))) rfl (by kernel_rfl) (by kernel_rfl) (by kernel_rfl) (fun _ _ _ h=>h) (Or.inl ⟨by rfl,by intro w hSw;go_simp;intro hq;have:=hq (by omega);omega⟩) (by assumption) ?_
    try simp [Act.put]
    refine wpAnyH_ready (rs:=[5]) (by kernel_rfl) (by simp) ?_
    refine AllReadyH.cons rfl (fun KK hK => ?_) AllReadyH.nil
    obtain ⟨l1,hl1,ht1,hs1⟩:=Tk.src_cut (i:=0) (m:=k) (HSP4.out.below hbA).row (by omega)
    refine Tk.step_nodes rfl (.tmp 334) (.tmp 338) rfl (A1:=w4.heap.size) (K1:=0) HE hl1 ht1 (by simpa using hs1) hbA.size (by omega) rfl rfl ?_
    intro a5 n5 c5 W5 HR5 hB5
    have hb5:Below w4.heap.size w4 W5:=hB5 w4 (Nat.le_refl _) hbA
    obtain ⟨p5,_,_,_,_,_⟩:=(HSP4.out.below hb5).cells
    refine hK.out _ _ (trivial) (fun hHeld => ?_)
    clear hK
    try simp [Act.put]
    refine wpAnyH_ready (rs:=[11]) (by kernel_rfl) (by simp) ?_
    refine AllReadyH.cons rfl (fun KK hK => ?_) AllReadyH.nil
    obtain ⟨l2,hl2,ht2,hs2⟩:=Tk.src_cut (i:=k+1) (m:=n1 - (k+1)) (HSP4.out.below hb5).row (by omega)
    refine Tk.step_nodes rfl (.tmp 339) (.tmp 344) rfl (A1:=w4.heap.size) (K1:=0+k) HR5 hl2 ht2 (fun h0=>by rw [← hsa,if_neg (by omega)];exact hs2 h0) hb5.size (by omega) rfl rfl ?_
    intro a6 n6 c6 W6 HR6 hB6
    have hb6:Below w4.heap.size w4 W6:=hB6 w4 (Nat.le_refl _) hb5
    obtain ⟨p6,q6,f6,f7,_,_⟩:=(HSP4.out.below hb6).cells
    obtain ⟨Y,hY⟩:∃ Y,W6.setCell ⟨b5,0,none⟩ (.slice a6 n6 c6)=Y:=⟨_,rfl⟩
    have HF:Hid (Tk.WPost R (P+5) 300000000 w0 w (.returned (.agg #[.slice a6 n6 c6])) (Y.setCell ⟨b4,0,none⟩ (.slice a6 n6 c6))):=(by rw [← hY];exact (HSP4.out.mono (by omega)).fin12 hb6 (HR6.mono (Nat.le_refl _) (by omega)))
    have hY4:Y.heap[b4]? = some (.cells #[.slice none 0 0] 73):=(by rw [← hY];exact (Gn.set_oth HSP4.out.ne1).trans (HSP4.out.below hb6).res)
    have hY5:Y.heap[b5]? = some (.cells #[.slice a6 n6 c6] 73):=(by rw [← hY];exact Tk.heap_set (HSP4.out.below hb6).out)
    have y4:Y.cell? ⟨b4,0,none⟩=some (.slice none 0 0):=(by rw [Lib.cell_of_heap hY4];rfl)
    have y5:Y.cell? ⟨b5,0,none⟩=some (.slice a6 n6 c6):=(by rw [Lib.cell_of_heap hY5];rfl)
    have yf:Y.frozen? ⟨b4,0,none⟩=false:=(by simp [World.frozen?,hY4])
    clear hY4 hY5
    refine hK.out _ _ (trivial) (fun hHeld => ?_)
    clear hK
    try simp [Act.put]
    refine Tk 12 (.pointer (some ⟨b5,0,none⟩)) rfl ?_
    try simp [Act.put]
    refine wpAnyH_ready (rs:=[13]) (by kernel_rfl) (by simp) ?_
    refine AllReadyH.cons rfl (fun KK hK => ?_) AllReadyH.nil
    go_simp
    refine hK.out _ _ (trivial) (fun hHeld => ?_)
    clear hK
    try simp [Act.put]
    refine wpAnyH_done (by kernel_rfl) ?_ _
    go_wp2_with fail
    exact bodyPost_ret (v:=.agg #[.slice a6 n6 c6]) (by simp [results,Tryz.results63,go_sem,y4]) rfl HF.out
  ·go_simp
   refine hK.out _ _ (trivial) (fun hHeld => ?_)
   clear hK
   try simp [Act.put]
   refine wpAnyH_take (i:=10) (v:=.slice sa (n1 - (k+1)) (c1 - (k+1))) rfl (by kernel_rfl) (by kernel_rfl) (by kernel_rfl) (fun _ _ _ h=>h) (Or.inl ⟨by rfl,by intro w hSw;go_simp;intro hq;have:=hq (by omega);omega⟩) (by assumption) ?_
   try simp [Act.put]
   refine wpAnyH_ready (rs:=[0]) (by kernel_rfl) (by simp) ?_
   refine AllReadyH.cons rfl (fun KK hK => ?_) AllReadyH.nil
   go_simp
   refine hK.out _ _ (trivial) (fun hHeld => ?_)
   clear hK
   try simp [Act.put]
   refine wpAnyH_ready (rs:=[5]) (by kernel_rfl) (by simp) ?_
   refine AllReadyH.cons rfl (fun KK hK => ?_) AllReadyH.nil
   obtain ⟨l1,hl1,ht1,hs1⟩:=Tk.src_cut (i:=0) (m:=k) (HSP4.out.below hbA).row (by omega)
   refine Tk.step_nodes rfl (.tmp 334) (.tmp 338) rfl (A1:=w4.heap.size) (K1:=0) HE hl1 ht1 (by simpa using hs1) hbA.size (by omega) rfl rfl ?_
   intro a5 n5 c5 W5 HR5 hB5
   have hb5:Below w4.heap.size w4 W5:=hB5 w4 (Nat.le_refl _) hbA
   obtain ⟨p5,_,_,_,_,_⟩:=(HSP4.out.below hb5).cells
   refine hK.out _ _ (trivial) (fun hHeld => ?_)
   clear hK
   try simp [Act.put]
   refine wpAnyH_ready (rs:=[11]) (by kernel_rfl) (by simp) ?_
   refine AllReadyH.cons rfl (fun KK hK => ?_) AllReadyH.nil
   obtain ⟨l2,hl2,ht2,hs2⟩:=Tk.src_cut (i:=k+1) (m:=n1 - (k+1)) (HSP4.out.below hb5).row (by omega)
   refine Tk.step_nodes rfl (.tmp 339) (.tmp 344) rfl (A1:=w4.heap.size) (K1:=0+k) HR5 hl2 ht2 (fun h0=>by rw [← hsa,if_neg (by omega)];exact hs2 h0) hb5.size (by omega) rfl rfl ?_
   intro a6 n6 c6 W6 HR6 hB6
   have hb6:Below w4.heap.size w4 W6:=hB6 w4 (Nat.le_refl _) hb5
   obtain ⟨p6,q6,f6,f7,_,_⟩:=(HSP4.out.below hb6).cells
   obtain ⟨Y,hY⟩:∃ Y,W6.setCell ⟨b5,0,none⟩ (.slice a6 n6 c6)=Y:=⟨_,rfl⟩
   have HF:Hid (Tk.WPost R (P+5) 300000000 w0 w (.returned (.agg #[.slice a6 n6 c6])) (Y.setCell ⟨b4,0,none⟩ (.slice a6 n6 c6))):=(by rw [← hY];exact (HSP4.out.mono (by omega)).fin12 hb6 (HR6.mono (Nat.le_refl _) (by omega)))
   have hY4:Y.heap[b4]? = some (.cells #[.slice none 0 0] 73):=(by rw [← hY];exact (Gn.set_oth HSP4.out.ne1).trans (HSP4.out.below hb6).res)
   have hY5:Y.heap[b5]? = some (.cells #[.slice a6 n6 c6] 73):=(by rw [← hY];exact Tk.heap_set (HSP4.out.below hb6).out)
   have y4:Y.cell? ⟨b4,0,none⟩=some (.slice none 0 0):=(by rw [Lib.cell_of_heap hY4];rfl)
   have y5:Y.cell? ⟨b5,0,none⟩=some (.slice a6 n6 c6):=(by rw [Lib.cell_of_heap hY5];rfl)
   have yf:Y.frozen? ⟨b4,0,none⟩=false:=(by simp [World.frozen?,hY4])
   clear hY4 hY5
   refine hK.out _ _ (trivial) (fun hHeld => ?_)
   clear hK
   try simp [Act.put]
   refine Tk 12 (.pointer (some ⟨b5,0,none⟩)) rfl ?_
   try simp [Act.put]
   refine wpAnyH_ready (rs:=[13]) (by kernel_rfl) (by simp) ?_
   refine AllReadyH.cons rfl (fun KK hK => ?_) AllReadyH.nil
   go_simp
   refine hK.out _ _ (trivial) (fun hHeld => ?_)
   clear hK
   try simp [Act.put]
   refine wpAnyH_done (by kernel_rfl) ?_ _
   go_wp2_with fail
   exact bodyPost_ret (v:=.agg #[.slice a6 n6 c6]) (by simp [results,Tryz.results63,go_sem,y4]) rfl HF.out
 ·go_simp
  refine hK.out _ _ (trivial) (fun hHeld => ?_)
  clear hK
  try simp [Act.put]
  refine wpAnyH_take (i:=10) (v:=.slice sa (n1 - (k+1)) (c1 - (k+1))) rfl (by kernel_rfl) (by kernel_rfl) (by kernel_rfl) (fun _ _ _ h=>h) (Or.inl ⟨by rfl,by intro w hSw;go_simp;intro hq;have:=hq (by omega);omega⟩) (by assumption) ?_
  try simp [Act.put]
  refine wpAnyH_ready (rs:=[0,2]) (by kernel_rfl) (by simp) ?_
  refine AllReadyH.cons rfl (fun KK hK => ?_) (AllReadyH.cons rfl (fun KK hK => ?_) AllReadyH.nil)
  ·go_simp
   refine hK.out _ _ (trivial) (fun hHeld => ?_)
   clear hK
   try simp [Act.put]
   refine wpAnyH_ready (rs:=[2]) (by kernel_rfl) (by simp) ?_
   refine AllReadyH.cons rfl (fun KK hK => ?_) AllReadyH.nil
   go_simp
   refine hK.out _ _ (trivial) (fun hHeld => ?_)
   clear hK
   try simp [Act.put]
   refine Tk 4 (.slice (some ⟨g,0,none⟩) k c1) rfl ?_
   try simp [Act.put]
   refine wpAnyH_ready (rs:=[5]) (by kernel_rfl) (by simp) ?_
   refine AllReadyH.cons rfl (fun KK hK => ?_) AllReadyH.nil
   obtain ⟨l1,hl1,ht1,hs1⟩:=Tk.src_cut (i:=0) (m:=k) (HSP4.out.below hbA).row (by omega)
   refine Tk.step_nodes rfl (.tmp 334) (.tmp 338) rfl (A1:=w4.heap.size) (K1:=0) HE hl1 ht1 (by simpa using hs1) hbA.size (by omega) rfl rfl ?_
   intro a5 n5 c5 W5 HR5 hB5
   have hb5:Below w4.heap.size w4 W5:=hB5 w4 (Nat.le_refl _) hbA
   obtain ⟨p5,_,_,_,_,_⟩:=(HSP4.out.below hb5).cells
   refine hK.out _ _ (trivial) (fun hHeld => ?_)
   clear hK
   try simp [Act.put]
   refine wpAnyH_ready (rs:=[11]) (by kernel_rfl) (by simp) ?_
   refine AllReadyH.cons rfl (fun KK hK => ?_) AllReadyH.nil
   obtain ⟨l2,hl2,ht2,hs2⟩:=Tk.src_cut (i:=k+1) (m:=n1 - (k+1)) (HSP4.out.below hb5).row (by omega)
   refine Tk.step_nodes rfl (.tmp 339) (.tmp 344) rfl (A1:=w4.heap.size) (K1:=0+k) HR5 hl2 ht2 (fun h0=>by rw [← hsa,if_neg (by omega)];exact hs2 h0) hb5.size (by omega) rfl rfl ?_
   intro a6 n6 c6 W6 HR6 hB6
   have hb6:Below w4.heap.size w4 W6:=hB6 w4 (Nat.le_refl _) hb5
   obtain ⟨p6,q6,f6,f7,_,_⟩:=(HSP4.out.below hb6).cells
   obtain ⟨Y,hY⟩:∃ Y,W6.setCell ⟨b5,0,none⟩ (.slice a6 n6 c6)=Y:=⟨_,rfl⟩
   have HF:Hid (Tk.WPost R (P+5) 300000000 w0 w (.returned (.agg #[.slice a6 n6 c6])) (Y.setCell ⟨b4,0,none⟩ (.slice a6 n6 c6))):=(by rw [← hY];exact (HSP4.out.mono (by omega)).fin12 hb6 (HR6.mono (Nat.le_refl _) (by omega)))
   have hY4:Y.heap[b4]? = some (.cells #[.slice none 0 0] 73):=(by rw [← hY];exact (Gn.set_oth HSP4.out.ne1).trans (HSP4.out.below hb6).res)
   have hY5:Y.heap[b5]? = some (.cells #[.slice a6 n6 c6] 73):=(by rw [← hY];exact Tk.heap_set (HSP4.out.below hb6).out)
   have y4:Y.cell? ⟨b4,0,none⟩=some (.slice none 0 0):=(by rw [Lib.cell_of_heap hY4];rfl)
   have y5:Y.cell? ⟨b5,0,none⟩=some (.slice a6 n6 c6):=(by rw [Lib.cell_of_heap hY5];rfl)
   have yf:Y.frozen? ⟨b4,0,none⟩=false:=(by simp [World.frozen?,hY4])
   clear hY4 hY5
   refine hK.out _ _ (trivial) (fun hHeld => ?_)
   clear hK
   try simp [Act.put]
   refine Tk 12 (.pointer (some ⟨b5,0,none⟩)) rfl ?_
   try simp [Act.put]
   refine wpAnyH_ready (rs:=[13]) (by kernel_rfl) (by simp) ?_
   refine AllReadyH.cons rfl (fun KK hK => ?_) AllReadyH.nil
   go_simp
   refine hK.out _ _ (trivial) (fun hHeld => ?_)
   clear hK
   try simp [Act.put]
   refine wpAnyH_done (by kernel_rfl) ?_ _
   go_wp2_with fail
   exact bodyPost_ret (v:=.agg #[.slice a6 n6 c6]) (by simp [results,Tryz.results63,go_sem,y4]) rfl HF.out
  ·go_simp
   refine hK.out _ _ (trivial) (fun hHeld => ?_)
   clear hK
   try simp [Act.put]
   refine Tk 4 (.slice (some ⟨g,0,none⟩) k c1) rfl ?_
   try simp [Act.put]
   refine wpAnyH_ready (rs:=[0]) (by kernel_rfl) (by simp) ?_
   refine AllReadyH.cons rfl (fun KK hK => ?_) AllReadyH.nil
   go_simp
   refine hK.out _ _ (trivial) (fun hHeld => ?_)
   clear hK
   try simp [Act.put]
   refine wpAnyH_ready (rs:=[5]) (by kernel_rfl) (by simp) ?_
   refine AllReadyH.cons rfl (fun KK hK => ?_) AllReadyH.nil
   obtain ⟨l1,hl1,ht1,hs1⟩:=Tk.src_cut (i:=0) (m:=k) (HSP4.out.below hbA).row (by omega)
   refine Tk.step_nodes rfl (.tmp 334) (.tmp 338) rfl (A1:=w4.heap.size) (K1:=0) HE hl1 ht1 (by simpa using hs1) hbA.size (by omega) rfl rfl ?_
   intro a5 n5 c5 W5 HR5 hB5
   have hb5:Below w4.heap.size w4 W5:=hB5 w4 (Nat.le_refl _) hbA
   obtain ⟨p5,_,_,_,_,_⟩:=(HSP4.out.below hb5).cells
   refine hK.out _ _ (trivial) (fun hHeld => ?_)
   clear hK
   try simp [Act.put]
   refine wpAnyH_ready (rs:=[11]) (by kernel_rfl) (by simp) ?_
   refine AllReadyH.cons rfl (fun KK hK => ?_) AllReadyH.nil
   obtain ⟨l2,hl2,ht2,hs2⟩:=Tk.src_cut (i:=k+1) (m:=n1 - (k+1)) (HSP4.out.below hb5).row (by omega)
   refine Tk.step_nodes rfl (.tmp 339) (.tmp 344) rfl (A1:=w4.heap.size) (K1:=0+k) HR5 hl2 ht2 (fun h0=>by rw [← hsa,if_neg (by omega)];exact hs2 h0) hb5.size (by omega) rfl rfl ?_
   intro a6 n6 c6 W6 HR6 hB6
   have hb6:Below w4.heap.size w4 W6:=hB6 w4 (Nat.le_refl _) hb5
   obtain ⟨p6,q6,f6,f7,_,_⟩:=(HSP4.out.below hb6).cells
   obtain ⟨Y,hY⟩:∃ Y,W6.setCell ⟨b5,0,none⟩ (.slice a6 n6 c6)=Y:=⟨_,rfl⟩
   have HF:Hid (Tk.WPost R (P+5) 300000000 w0 w (.returned (.agg #[.slice a6 n6 c6])) (Y.setCell ⟨b4,0,none⟩ (.slice a6 n6 c6))):=(by rw [← hY];exact (HSP4.out.mono (by omega)).fin12 hb6 (HR6.mono (Nat.le_refl _) (by omega)))
   have hY4:Y.heap[b4]? = some (.cells #[.slice none 0 0] 73):=(by rw [← hY];exact (Gn.set_oth HSP4.out.ne1).trans (HSP4.out.below hb6).res)
   have hY5:Y.heap[b5]? = some (.cells #[.slice a6 n6 c6] 73):=(by rw [← hY];exact Tk.heap_set (HSP4.out.below hb6).out)
   have y4:Y.cell? ⟨b4,0,none⟩=some (.slice none 0 0):=(by rw [Lib.cell_of_heap hY4];rfl)
   have y5:Y.cell? ⟨b5,0,none⟩=some (.slice a6 n6 c6):=(by rw [Lib.cell_of_heap hY5];rfl)
   have yf:Y.frozen? ⟨b4,0,none⟩=false:=(by simp [World.frozen?,hY4])
   clear hY4 hY5
   refine hK.out _ _ (trivial) (fun hHeld => ?_)
   clear hK
   try simp [Act.put]
   refine Tk 12 (.pointer (some ⟨b5,0,none⟩)) rfl ?_
   try simp [Act.put]
   refine wpAnyH_ready (rs:=[13]) (by kernel_rfl) (by simp) ?_
   refine AllReadyH.cons rfl (fun KK hK => ?_) AllReadyH.nil
   go_simp
   refine hK.out _ _ (trivial) (fun hHeld => ?_)
   clear hK
   try simp [Act.put]
   refine wpAnyH_done (by kernel_rfl) ?_ _
   go_wp2_with fail
   exact bodyPost_ret (v:=.agg #[.slice a6 n6 c6]) (by simp [results,Tryz.results63,go_sem,y4]) rfl HF.out
end Go.Proofs.YtfoimmnlojjfbaaGreatDoor
