import Derived.Test.YtfoimmnlojjfbaaGreatDoorKTk
import Derived.Test.YtfoimmnlojjfbaaGreatDoorKTkK
set_option maxRecDepth 100000
set_option maxHeartbeats 8000000
namespace Go.Proofs.YtfoimmnlojjfbaaGreatDoor
open Go.RowKit
theorem Tk.spoil_8 {R P b4 b5 b8 g n1 c1 k:Nat} {w0 w w4:World} {v1 v2 v3 v9 v10 v11 v12 v13 v14 v15 v16 v17 v18 v19 v20 v21 v22 v23 v24 v25 v26 v27 v28 v29 v30 v31 v32 v33 v34 v35 v36 v37 v38 v39 v40 v41 v42 v43 v45 v46 v47 v48 v49 v50 v51 v52 v53 v54 v55 v56 v57 v58 v59 v60 v61 v62 v63 v64 v65 v66 v67 v68 v69 v70 v71 v72 v73 v74 v75 v76 v77 v78 v79 v80 v81 v82 v83 v84 v85 v86 v87 v88 v89 v90 v91 v92 v93 v94 v95 v96 v97 v98 v99 v100 v101 v102 v103 v104 v105 v106 v107 v108 v109 v110 v111 v112 v113 v114 v115 v116 v117 v118 v119 v120 v121 v122 v123 v124 v125 v126 v127 v128 v129 v130 v131 v132 v133 v134 v135 v136 v137 v138 v139 v140 v141 v142 v143 v144 v145 v146 v147 v148 v149 v150 v151 v152 v153 v154 v155 v156 v157 v158 v159 v160 v161 v162 v163 v164 v165 v166 v167 v168 v169 v170 v171 v172 v173 v174 v175 v176 v177 v178 v179 v180 v181 v182 v183 v184 v185 v186 v187 v188 v189 v190 v191 v192 v193 v194 v195 v196 v197 v198 v199 v200 v201 v202 v203 v204 v205 v206 v207 v208 v209 v210 v211 v212 v213 v214 v215 v216 v217 v218 v219 v220 v221 v222 v223 v224 v225 v226 v227 v228 v229 v230 v231 v232 v233 v234 v235 v236 v237 v238 v239 v240 v241 v242 v243 v244 v245 v246 v247 v248 v249 v250 v251 v252 v253 v254 v255 v256 v257 v258 v259 v260 v261 v262 v263 v264 v265 v266 v267 v268 v269 v270 v271 v272 v273 v274 v275 v276 v277 v278 v279 v280 v281 v282 v283 v284 v285 v286 v287 v288 v289 v290 v291 v292 v293 v294 v295 v296 v297 v298 v299 v300 v301 v302 v303 v304 v305 v306 v307 v308 v309 v310 v311 v312 v313 v314 v315 v316 v317 v318 v319 v320 v321 v322 v323 v324 v325 v326 v327 v328 v329 v330 v331 v332 v333 v334 v335 v336 v337 v338 v339 v340 v341 v342 v343 v344 v345 v346 v347 v348 v349 v350 v351 v352 v353:Value} {K:Act→World→Prop} (HSP4:Hid (Tk.Sp R (P+1+1+1) w0 w w4 b4 b5 b8 g n1 c1)) (hP:P≤800000000) (hnn:n1≤300000000) (hk2:k < n1) (hK:∀ a w',Code.wp Tryz.prog Tk.swBoth.2 (bodyPost Tryz.prog Tryz.f63 (Tk.WPost R (P+5) 300000000 w0 w)) a w'→K a w') :
  Code.wp Tryz.prog Tk.swBoth.1 (Exit.then K (bodyPost Tryz.prog Tryz.f63 (Tk.WPost R (P+5) 300000000 w0 w))) ⟨List.toArray (.pointer (some ⟨R,0,none⟩)::v1::v2::v3 :: .pointer (some ⟨b4,0,none⟩) :: .pointer (some ⟨b5,0,none⟩) :: .int .i64 (n1:Int) :: .int .i64 (k:Int) :: .pointer (some ⟨b8,0,none⟩)::v9::v10::v11::v12::v13::v14::v15::v16::v17::v18::v19::v20::v21::v22::v23::v24::v25::v26::v27::v28::v29::v30::v31::v32::v33::v34::v35::v36::v37::v38::v39::v40::v41::v42::v43 :: .int .i64 8::v45::v46::v47::v48::v49::v50::v51::v52::v53::v54::v55::v56::v57::v58::v59::v60::v61::v62::v63::v64::v65::v66::v67::v68::v69::v70::v71::v72::v73::v74::v75::v76::v77::v78::v79::v80::v81::v82::v83::v84::v85::v86::v87::v88::v89::v90::v91::v92::v93::v94::v95::v96::v97::v98::v99::v100::v101::v102::v103::v104::v105::v106::v107::v108::v109::v110::v111::v112::v113::v114::v115::v116::v117::v118::v119::v120::v121::v122::v123::v124::v125::v126::v127::v128::v129::v130::v131::v132::v133::v134::v135::v136::v137::v138::v139::v140::v141::v142::v143::v144::v145::v146::v147::v148::v149::v150::v151::v152::v153::v154::v155::v156::v157::v158::v159::v160::v161::v162::v163::v164::v165::v166::v167::v168::v169::v170::v171::v172::v173::v174::v175::v176::v177::v178::v179::v180::v181::v182::v183::v184::v185::v186::v187::v188::v189::v190::v191::v192::v193::v194::v195::v196::v197::v198::v199::v200::v201::v202::v203::v204::v205::v206::v207::v208::v209::v210::v211::v212::v213::v214::v215::v216::v217::v218::v219::v220::v221::v222::v223::v224::v225::v226::v227::v228::v229::v230::v231::v232::v233::v234::v235::v236::v237::v238::v239::v240::v241::v242::v243::v244::v245::v246::v247::v248::v249::v250::v251::v252::v253::v254::v255::v256::v257::v258::v259::v260::v261::v262::v263::v264::v265::v266::v267::v268::v269::v270::v271::v272::v273::v274::v275::v276::v277::v278::v279::v280::v281::v282::v283::v284::v285::v286::v287::v288::v289::v290::v291::v292::v293::v294::v295::v296::v297::v298::v299::v300::v301::v302::v303::v304::v305::v306::v307::v308::v309::v310::v311::v312::v313::v314::v315::v316::v317::v318::v319::v320::v321::v322::v323::v324::v325::v326::v327::v328::v329::v330::v331::v332::v333::v334::v335::v336::v337::v338::v339::v340::v341::v342::v343::v344::v345::v346::v347::v348::v349::v350::v351::v352::v353::[]),[]⟩ w4:=by
 have hnz2:¬ ((n1:Int)=0):=by omega
 have hnb:((n1:Int) == 0)=false:=by simpa using hnz2
 have hz4:b4 < w4.heap.size:=(Array.getElem?_eq_some_iff.1 HSP4.out.res).1
 conv at hK=>enter [a,w'];arg 1;arg 2;whnf
 conv=>arg 2;whnf
 go_wp2_with fail
 go_loopw [11] (fun ti wr => ∃ j:Int,(0≤j∧j≤(n1:Int))∧ti = .int .i64 j∧wr=w4) (fun ti _=>((n1:Int) - intOf ti).toNat)
 case atStart=>exact ⟨0,by omega,rfl,rfl⟩
 case round =>
  obtain ⟨j,hj,rfl,rfl⟩:=hrel
  have hwj:wrap64 (j+1)=j+1:=IntWalk.wrap64_in _ (by omega)
  by_cases hlt:j < (n1:Int)
  ·have hwk:wrap64 ((k:Int)+j)=(k:Int)+j:=IntWalk.wrap64_in _ (by omega)
   obtain ⟨m,hm1,hm2⟩:∃ m:Nat,((k:Int)+j) % (n1:Int)=(m:Int)∧m < n1:=by obtain ⟨m,h1,h2⟩:=Tk.mod_nat (show 0≤(k:Int)+j by omega) (show (0:Int) < (n1:Int) by omega);exact ⟨m,h1,by simpa using h2⟩
   obtain ⟨o5,o6,o7,_,o9,d5,hd5,x0,x1,x2,x3,x4,x5⟩:=HSP4.out.cells
   clear o9 x0 x1 x2 x3 x4 x5
   obtain ⟨d6,hd6,⟨z0,z1,z2,z3,z4,z5⟩,hfz⟩:=Tk.Row_cells HSP4.out.row hm2
   clear hfz
   go_wp2_with fail
   all_goals first | exact ⟨⟨j+1,by omega,rfl,trivial⟩,by simp only [intOf];omega⟩ | skip
   all_goals
    have hDb:Gn.Dw R (P+1+1+1) w0 wr.drew:=HSP4.out.dw.below (Below.refl _ _).drew
    obtain ⟨q56,_,_,_,_,_⟩:=(HSP4.out.below (Tk.up1 wr (.cells #[.int .i64 1,.int .i64 0,.int .i64 7,.int .i64 1,.string ⟨#[]⟩,.int .i64 0,.int .i64 2,.int .i64 0,.int .i64 0,.int .i64 0,.string ⟨#[115]⟩,.int .i64 0,.int .i64 3,.int .i64 0,.int .i64 0,.int .i64 0,.string ⟨#[]⟩,.int .i64 0,.int .i64 14,.int .i64 0,.int .i64 0,.int .i64 0,.string ⟨#[]⟩,.int .i64 0] 106))).cells
    have hDa:Gn.Dw R (P+1+1+1) w0 (wr.alloc (.cells #[.int .i64 1,.int .i64 0,.int .i64 7,.int .i64 1,.string ⟨#[]⟩,.int .i64 0,.int .i64 2,.int .i64 0,.int .i64 0,.int .i64 0,.string ⟨#[115]⟩,.int .i64 0,.int .i64 3,.int .i64 0,.int .i64 0,.int .i64 0,.string ⟨#[]⟩,.int .i64 0,.int .i64 14,.int .i64 0,.int .i64 0,.int .i64 0,.string ⟨#[]⟩,.int .i64 0] 106)).drew:=HSP4.out.dw.below (Tk.up1 wr _).drew
    have o5d:wr.drew.cell? ⟨b5,0,none⟩=some (.slice (some ⟨g,0,none⟩) n1 c1):=o5
    have q56d:(wr.alloc (.cells #[.int .i64 1,.int .i64 0,.int .i64 7,.int .i64 1,.string ⟨#[]⟩,.int .i64 0,.int .i64 2,.int .i64 0,.int .i64 0,.int .i64 0,.string ⟨#[115]⟩,.int .i64 0,.int .i64 3,.int .i64 0,.int .i64 0,.int .i64 0,.string ⟨#[]⟩,.int .i64 0,.int .i64 14,.int .i64 0,.int .i64 0,.int .i64 0,.string ⟨#[]⟩,.int .i64 0] 106)).drew.cell? ⟨b5,0,none⟩=some (.slice (some ⟨g,0,none⟩) n1 c1):=q56
    refine wp_region_held_drew (S:=(fun W=>W.cell? ⟨b5,0,none⟩=some (.slice (some ⟨g,0,none⟩) n1 c1))) (by kernel_rfl) (o5d) (fun hHeld => ?_)
    refine Tk 0 (.pointer (some ⟨b5,0,none⟩)) rfl ?_
    try simp [Act.put]
    refine Tk 1 (.slice (some ⟨g,0,none⟩) n1 c1) rfl ?_
    try simp [Act.put]
    refine Tk 2 (.int .i64 (m:Int)) rfl ?_
    try simp [Act.put]
    refine Tk 3 (.agg #[.int .i64 1,.int .i64 0,.int .i64 7,.int .i64 1,.string ⟨#[]⟩,.int .i64 0]) rfl ?_
    try simp [Act.put]
    refine Tk 4 (.agg #[.int .i64 2,.int .i64 0,.int .i64 0,.int .i64 0,.string ⟨#[115]⟩,.int .i64 0]) rfl ?_
    try simp [Act.put]
    refine Tk 5 (.agg #[.int .i64 3,.int .i64 0,.int .i64 0,.int .i64 0,.string ⟨#[]⟩,.int .i64 0]) rfl ?_
    try simp [Act.put]
    refine Tk 6 (.agg #[.int .i64 14,.int .i64 0,.int .i64 0,.int .i64 0,.string ⟨#[]⟩,.int .i64 0]) rfl ?_
    try simp [Act.put]
    refine Tk 8 (.pointer (some ⟨R,0,none⟩)) rfl ?_
    try simp [Act.put]
    refine wpAnyH_ready (rs:=[7,9]) (by kernel_rfl) (by simp) ?_
    refine AllReadyH.cons rfl (fun KK hK => ?_) (AllReadyH.cons rfl (fun KK hK => ?_) AllReadyH.nil)
    ·go_simp
     refine hK.out _ _ (q56d) (fun hHeld => ?_)
     clear hK
     try simp [Act.put]
     refine wpAnyH_ready (rs:=[9]) (by kernel_rfl) (by simp) ?_
     refine AllReadyH.cons rfl (fun KK hK => ?_) AllReadyH.nil
     go_simp
     go_at_call 8
     refine (Gn.pickWN 4 hDa (by omega) (by decide) (by decide)).mono ?_
     rintro e w6 ⟨x,rfl,hx,hd5',hf5'⟩
     have S5:Hid (Tk.Sp R (P+1+1+1+1) w0 w w6 b4 b5 b8 g n1 c1):=HSP4.out.draw hd5' ((Gn.Fw.of_below (Tk.up1 wr _).drew).trans hf5')
     obtain ⟨d8,hd8,⟨y0,y1,y2,y3,y4,y5⟩,hfz8⟩:=Tk.Row_cells (Gn.Row.fw (w:=(wr.alloc (.cells #[.int .i64 1,.int .i64 0,.int .i64 7,.int .i64 1,.string ⟨#[]⟩,.int .i64 0,.int .i64 2,.int .i64 0,.int .i64 0,.int .i64 0,.string ⟨#[115]⟩,.int .i64 0,.int .i64 3,.int .i64 0,.int .i64 0,.int .i64 0,.string ⟨#[]⟩,.int .i64 0,.int .i64 14,.int .i64 0,.int .i64 0,.int .i64 0,.string ⟨#[]⟩,.int .i64 0] 106)).drew) (Tk.four_row wr) hf5') (show x < 4 by omega)
     clear hfz8
     obtain ⟨q5,_,_,_,_,_⟩:=S5.out.cells
     clear hd5' hf5'
     obtain ⟨d6,hd6,⟨z0,_,_,_,_,_⟩,hfz⟩:=Tk.Row_cells S5.out.row hm2
     have g0:=hfz (m * 6)
     clear hfz
     have S0:Tk.Sp R (P+1+1+1+1) w0 w w6 b4 b5 b8 g n1 c1:=S5.out
     obtain ⟨Y1,hY1⟩:∃ Y,w6.setCell ⟨g,m * 6,none⟩ (.int .i64 d8.kind)=Y:=⟨_,rfl⟩
     have S1:Tk.Sp R (P+1+1+1+1) w0 w Y1 b4 b5 b8 g n1 c1:=(by rw [← hY1];exact S0.setRow (i:=0) hm2 (by decide) (Tk.Fld.num _))
     obtain ⟨_,_,⟨_,z1,_,_,_,_⟩,hfz⟩:=Tk.Row_cells S1.row hm2
     have g1:=hfz (m * 6+1)
     clear hfz
     clear S0
     obtain ⟨Y2,hY2⟩:∃ Y,Y1.setCell ⟨g,m * 6+1,none⟩ (.int .i64 d8.op)=Y:=⟨_,rfl⟩
     have S2:Tk.Sp R (P+1+1+1+1) w0 w Y2 b4 b5 b8 g n1 c1:=(by rw [← hY2];exact S1.setRow (i:=1) hm2 (by decide) (Tk.Fld.num _))
     obtain ⟨_,_,⟨_,_,z2,_,_,_⟩,hfz⟩:=Tk.Row_cells S2.row hm2
     have g2:=hfz (m * 6+2)
     clear hfz
     clear S1
     obtain ⟨Y3,hY3⟩:∃ Y,Y2.setCell ⟨g,m * 6+2,none⟩ (.int .i64 d8.type)=Y:=⟨_,rfl⟩
     have S3:Tk.Sp R (P+1+1+1+1) w0 w Y3 b4 b5 b8 g n1 c1:=(by rw [← hY3];exact S2.setRow (i:=2) hm2 (by decide) (Tk.Fld.num _))
     obtain ⟨_,_,⟨_,_,_,z3,_,_⟩,hfz⟩:=Tk.Row_cells S3.row hm2
     have g3:=hfz (m * 6+3)
     clear hfz
     clear S2
     obtain ⟨Y4,hY4⟩:∃ Y,Y3.setCell ⟨g,m * 6+3,none⟩ (.int .i64 d8.n)=Y:=⟨_,rfl⟩
     have S4:Tk.Sp R (P+1+1+1+1) w0 w Y4 b4 b5 b8 g n1 c1:=(by rw [← hY4];exact S3.setRow (i:=3) hm2 (by decide) (Tk.Fld.num _))
     obtain ⟨_,_,⟨_,_,_,_,z4,_⟩,hfz⟩:=Tk.Row_cells S4.row hm2
     have g4:=hfz (m * 6+4)
     clear hfz
     clear S3
     obtain ⟨Y5,hY5⟩:∃ Y,Y4.setCell ⟨g,m * 6+4,none⟩ (.string d8.text)=Y:=⟨_,rfl⟩
     have S5:Tk.Sp R (P+1+1+1+1) w0 w Y5 b4 b5 b8 g n1 c1:=(by rw [← hY5];exact S4.setRow (i:=4) hm2 (by decide) (Tk.Fld.text hd8))
     obtain ⟨_,_,⟨_,_,_,_,_,z5⟩,hfz⟩:=Tk.Row_cells S5.row hm2
     have g5:=hfz (m * 6+5)
     clear hfz
     clear S4
     obtain ⟨Y6,hY6⟩:∃ Y,Y5.setCell ⟨g,m * 6+5,none⟩ (.int .i64 d8.kids)=Y:=⟨_,rfl⟩
     have S6:Tk.Sp R (P+1+1+1+1) w0 w Y6 b4 b5 b8 g n1 c1:=(by rw [← hY6];exact S5.setRow (i:=5) hm2 (by decide) (Tk.Fld.num _))
     clear S5
     obtain ⟨p5,p6,p7,_,_,_⟩:=S6.cells
     have HFIN:Hid (Tk.WPost R (P+5) 300000000 w0 w (.returned (.agg #[.slice (some ⟨g,0,none⟩) n1 c1])) (Y6.setCell ⟨b4,0,none⟩ (.slice (some ⟨g,0,none⟩) n1 c1))):=(S6.mono (by omega)).fin
     clear S6
     go_wp2
     refine hK.out _ _ (q5) (fun hHeld => ?_)
     clear hK
     try simp [Act.put]
     refine Tk 10 (.pointer (some ⟨wr.heap.size,x * 6,none⟩)) rfl ?_
     try simp [Act.put]
     refine wpAnyH_ready (rs:=[11]) (by kernel_rfl) (by simp) ?_
     refine AllReadyH.cons rfl (fun KK hK => ?_) AllReadyH.nil
     go_simp
     refine hK.out _ _ (q5) (fun hHeld => ?_)
     clear hK
     try simp [Act.put]
     refine Tk 12 (.pointer (some ⟨g,m * 6,none⟩)) rfl ?_
     try simp [Act.put]
     refine wpAnyH_ready (rs:=[13]) (by kernel_rfl) (by simp) ?_
     refine AllReadyH.cons rfl (fun KK hK => ?_) AllReadyH.nil
     go_simp
     refine hK.out _ _ (p5) (fun hHeld => ?_)
     clear hK
     try simp [Act.put]
     refine wpAnyH_done (by kernel_rfl) ?_ _
     go_wp2_with fail
     exact bodyPost_ret (v:=.agg #[.slice (some ⟨g,0,none⟩) n1 c1]) (by simp [results,Tryz.results63,go_sem,p6]) rfl HFIN.out
    ·go_simp
     go_at_call 8
     refine (Gn.pickWN 4 hDb (by omega) (by decide) (by decide)).mono ?_
     rintro e w5 ⟨x,rfl,hx,hd5',hf5'⟩
     have S5:Hid (Tk.Sp R (P+1+1+1+1) w0 w w5 b4 b5 b8 g n1 c1):=HSP4.out.draw hd5' ((Gn.Fw.of_below (Below.refl _ _).drew).trans hf5')
     obtain ⟨q55,_,_,_,_,_⟩:=S5.out.cells
     obtain ⟨d8,hd8,⟨y0,y1,y2,y3,y4,y5⟩,hfz8⟩:=Tk.Row_cells (Tk.four_row w5) (show x < 4 by omega)
     clear hfz8
     obtain ⟨w6,hw6⟩:∃ W,w5.alloc (.cells #[.int .i64 1,.int .i64 0,.int .i64 7,.int .i64 1,.string ⟨#[]⟩,.int .i64 0,.int .i64 2,.int .i64 0,.int .i64 0,.int .i64 0,.string ⟨#[115]⟩,.int .i64 0,.int .i64 3,.int .i64 0,.int .i64 0,.int .i64 0,.string ⟨#[]⟩,.int .i64 0,.int .i64 14,.int .i64 0,.int .i64 0,.int .i64 0,.string ⟨#[]⟩,.int .i64 0] 106)=W:=⟨_,rfl⟩
     have S6a:Hid (Tk.Sp R (P+1+1+1+1) w0 w w6 b4 b5 b8 g n1 c1):=(by rw [← hw6];exact S5.out.below (Tk.up1 w5 _))
     rw [hw6] at y0 y1 y2 y3 y4 y5
     obtain ⟨q5,_,_,_,_,_⟩:=S6a.out.cells
     clear hd5' hf5'
     obtain ⟨d6,hd6,⟨z0,_,_,_,_,_⟩,hfz⟩:=Tk.Row_cells S6a.out.row hm2
     have g0:=hfz (m * 6)
     clear hfz
     have S0:Tk.Sp R (P+1+1+1+1) w0 w w6 b4 b5 b8 g n1 c1:=S6a.out
     obtain ⟨Y1,hY1⟩:∃ Y,w6.setCell ⟨g,m * 6,none⟩ (.int .i64 d8.kind)=Y:=⟨_,rfl⟩
     have S1:Tk.Sp R (P+1+1+1+1) w0 w Y1 b4 b5 b8 g n1 c1:=(by rw [← hY1];exact S0.setRow (i:=0) hm2 (by decide) (Tk.Fld.num _))
     obtain ⟨_,_,⟨_,z1,_,_,_,_⟩,hfz⟩:=Tk.Row_cells S1.row hm2
     have g1:=hfz (m * 6+1)
     clear hfz
     clear S0
     obtain ⟨Y2,hY2⟩:∃ Y,Y1.setCell ⟨g,m * 6+1,none⟩ (.int .i64 d8.op)=Y:=⟨_,rfl⟩
     have S2:Tk.Sp R (P+1+1+1+1) w0 w Y2 b4 b5 b8 g n1 c1:=(by rw [← hY2];exact S1.setRow (i:=1) hm2 (by decide) (Tk.Fld.num _))
     obtain ⟨_,_,⟨_,_,z2,_,_,_⟩,hfz⟩:=Tk.Row_cells S2.row hm2
     have g2:=hfz (m * 6+2)
     clear hfz
     clear S1
     obtain ⟨Y3,hY3⟩:∃ Y,Y2.setCell ⟨g,m * 6+2,none⟩ (.int .i64 d8.type)=Y:=⟨_,rfl⟩
     have S3:Tk.Sp R (P+1+1+1+1) w0 w Y3 b4 b5 b8 g n1 c1:=(by rw [← hY3];exact S2.setRow (i:=2) hm2 (by decide) (Tk.Fld.num _))
     obtain ⟨_,_,⟨_,_,_,z3,_,_⟩,hfz⟩:=Tk.Row_cells S3.row hm2
     have g3:=hfz (m * 6+3)
     clear hfz
     clear S2
     obtain ⟨Y4,hY4⟩:∃ Y,Y3.setCell ⟨g,m * 6+3,none⟩ (.int .i64 d8.n)=Y:=⟨_,rfl⟩
     have S4:Tk.Sp R (P+1+1+1+1) w0 w Y4 b4 b5 b8 g n1 c1:=(by rw [← hY4];exact S3.setRow (i:=3) hm2 (by decide) (Tk.Fld.num _))
     obtain ⟨_,_,⟨_,_,_,_,z4,_⟩,hfz⟩:=Tk.Row_cells S4.row hm2
     have g4:=hfz (m * 6+4)
     clear hfz
     clear S3
     obtain ⟨Y5,hY5⟩:∃ Y,Y4.setCell ⟨g,m * 6+4,none⟩ (.string d8.text)=Y:=⟨_,rfl⟩
     have S5:Tk.Sp R (P+1+1+1+1) w0 w Y5 b4 b5 b8 g n1 c1:=(by rw [← hY5];exact S4.setRow (i:=4) hm2 (by decide) (Tk.Fld.text hd8))
     obtain ⟨_,_,⟨_,_,_,_,_,z5⟩,hfz⟩:=Tk.Row_cells S5.row hm2
     have g5:=hfz (m * 6+5)
     clear hfz
     clear S4
     obtain ⟨Y6,hY6⟩:∃ Y,Y5.setCell ⟨g,m * 6+5,none⟩ (.int .i64 d8.kids)=Y:=⟨_,rfl⟩
     have S6:Tk.Sp R (P+1+1+1+1) w0 w Y6 b4 b5 b8 g n1 c1:=(by rw [← hY6];exact S5.setRow (i:=5) hm2 (by decide) (Tk.Fld.num _))
     clear S5
     obtain ⟨p5,p6,p7,_,_,_⟩:=S6.cells
     have HFIN:Hid (Tk.WPost R (P+5) 300000000 w0 w (.returned (.agg #[.slice (some ⟨g,0,none⟩) n1 c1])) (Y6.setCell ⟨b4,0,none⟩ (.slice (some ⟨g,0,none⟩) n1 c1))):=(S6.mono (by omega)).fin
     clear S6
     go_wp2
     refine hK.out _ _ (q55) (fun hHeld => ?_)
     clear hK
     try simp [Act.put]
     refine wpAnyH_ready (rs:=[7]) (by kernel_rfl) (by simp) ?_
     refine AllReadyH.cons rfl (fun KK hK => ?_) AllReadyH.nil
     go_simp
     refine hK.out _ _ (q5) (fun hHeld => ?_)
     clear hK
     try simp [Act.put]
     refine Tk 10 (.pointer (some ⟨w5.heap.size,x * 6,none⟩)) rfl ?_
     try simp [Act.put]
     refine wpAnyH_ready (rs:=[11]) (by kernel_rfl) (by simp) ?_
     refine AllReadyH.cons rfl (fun KK hK => ?_) AllReadyH.nil
     go_simp
     refine hK.out _ _ (q5) (fun hHeld => ?_)
     clear hK
     try simp [Act.put]
     refine Tk 12 (.pointer (some ⟨g,m * 6,none⟩)) rfl ?_
     try simp [Act.put]
     refine wpAnyH_ready (rs:=[13]) (by kernel_rfl) (by simp) ?_
     refine AllReadyH.cons rfl (fun KK hK => ?_) AllReadyH.nil
     go_simp
     refine hK.out _ _ (p5) (fun hHeld => ?_)
     clear hK
     try simp [Act.put]
     refine wpAnyH_done (by kernel_rfl) ?_ _
     go_wp2_with fail
     exact bodyPost_ret (v:=.agg #[.slice (some ⟨g,0,none⟩) n1 c1]) (by simp [results,Tryz.results63,go_sem,p6]) rfl HFIN.out
  ·obtain ⟨o5,o6,o7,o8,o9,d5,hd5,x0,x1,x2,x3,x4,x5⟩:=HSP4.out.cells
   clear o9 o8
   obtain ⟨d6,hd6,⟨z0,_,_,_,_,_⟩,hfz⟩:=Tk.Row_cells HSP4.out.row hk2
   have g0:=hfz (k * 6)
   clear hfz
   have S0:Tk.Sp R (P+1+1+1) w0 w wr b4 b5 b8 g n1 c1:=HSP4.out
   obtain ⟨Y1,hY1⟩:∃ Y,wr.setCell ⟨g,k * 6,none⟩ (.int .i64 d5.kind)=Y:=⟨_,rfl⟩
   have S1:Tk.Sp R (P+1+1+1) w0 w Y1 b4 b5 b8 g n1 c1:=(by rw [← hY1];exact S0.setRow (i:=0) hk2 (by decide) (Tk.Fld.num _))
   obtain ⟨_,_,⟨_,z1,_,_,_,_⟩,hfz⟩:=Tk.Row_cells S1.row hk2
   have g1:=hfz (k * 6+1)
   clear hfz
   clear S0
   obtain ⟨Y2,hY2⟩:∃ Y,Y1.setCell ⟨g,k * 6+1,none⟩ (.int .i64 d5.op)=Y:=⟨_,rfl⟩
   have S2:Tk.Sp R (P+1+1+1) w0 w Y2 b4 b5 b8 g n1 c1:=(by rw [← hY2];exact S1.setRow (i:=1) hk2 (by decide) (Tk.Fld.num _))
   obtain ⟨_,_,⟨_,_,z2,_,_,_⟩,hfz⟩:=Tk.Row_cells S2.row hk2
   have g2:=hfz (k * 6+2)
   clear hfz
   clear S1
   obtain ⟨Y3,hY3⟩:∃ Y,Y2.setCell ⟨g,k * 6+2,none⟩ (.int .i64 d5.type)=Y:=⟨_,rfl⟩
   have S3:Tk.Sp R (P+1+1+1) w0 w Y3 b4 b5 b8 g n1 c1:=(by rw [← hY3];exact S2.setRow (i:=2) hk2 (by decide) (Tk.Fld.num _))
   obtain ⟨_,_,⟨_,_,_,z3,_,_⟩,hfz⟩:=Tk.Row_cells S3.row hk2
   have g3:=hfz (k * 6+3)
   clear hfz
   clear S2
   obtain ⟨Y4,hY4⟩:∃ Y,Y3.setCell ⟨g,k * 6+3,none⟩ (.int .i64 d5.n)=Y:=⟨_,rfl⟩
   have S4:Tk.Sp R (P+1+1+1) w0 w Y4 b4 b5 b8 g n1 c1:=(by rw [← hY4];exact S3.setRow (i:=3) hk2 (by decide) (Tk.Fld.num _))
   obtain ⟨_,_,⟨_,_,_,_,z4,_⟩,hfz⟩:=Tk.Row_cells S4.row hk2
   have g4:=hfz (k * 6+4)
   clear hfz
   clear S3
   obtain ⟨Y5,hY5⟩:∃ Y,Y4.setCell ⟨g,k * 6+4,none⟩ (.string d5.text)=Y:=⟨_,rfl⟩
   have S5:Tk.Sp R (P+1+1+1) w0 w Y5 b4 b5 b8 g n1 c1:=(by rw [← hY5];exact S4.setRow (i:=4) hk2 (by decide) (Tk.Fld.text hd5))
   obtain ⟨_,_,⟨_,_,_,_,_,z5⟩,hfz⟩:=Tk.Row_cells S5.row hk2
   have g5:=hfz (k * 6+5)
   clear hfz
   clear S4
   obtain ⟨Y6,hY6⟩:∃ Y,Y5.setCell ⟨g,k * 6+5,none⟩ (.int .i64 d5.kids)=Y:=⟨_,rfl⟩
   have S6:Tk.Sp R (P+1+1+1) w0 w Y6 b4 b5 b8 g n1 c1:=(by rw [← hY6];exact S5.setRow (i:=5) hk2 (by decide) (Tk.Fld.num _))
   clear S5
   obtain ⟨p5,p6,p7,_,_,_⟩:=S6.cells
   have HS6:Hid (Tk.WPost R (P+5) 300000000 w0 w (.returned (.agg #[.slice (some ⟨g,0,none⟩) n1 c1])) (Y6.setCell ⟨b4,0,none⟩ (.slice (some ⟨g,0,none⟩) n1 c1))):=(S6.mono (by omega)).fin
   clear S6
   go_wp2_with fail
   exact bodyPost_ret (v:=.agg #[.slice (some ⟨g,0,none⟩) n1 c1]) (by simp [results,Tryz.results63,go_sem,p6]) rfl HS6.out
end Go.Proofs.YtfoimmnlojjfbaaGreatDoor
