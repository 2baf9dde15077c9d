import Derived.Test.YtfoimmnlojjfbaaGreatDoorKTkK
set_option maxRecDepth 100000
set_option maxHeartbeats 8000000
namespace Go.Proofs.YtfoimmnlojjfbaaGreatDoor
open Go.RowKit
theorem Tk.spoil_0 {R P b4 b5 b8 g n1 c1 k:Nat} {w0 w w4:World} {v1 v2 v3 v9 v10 v11 v12 v13 v14 v15 v16 v17 v18 v19 v20 v21 v22 v23 v24 v25 v26 v27 v28 v29 v30 v31 v32 v33 v34 v35 v36 v37 v38 v39 v40 v41 v42 v43 v45 v46 v47 v48 v49 v50 v51 v52 v53 v54 v55 v56 v57 v58 v59 v60 v61 v62 v63 v64 v65 v66 v67 v68 v69 v70 v71 v72 v73 v74 v75 v76 v77 v78 v79 v80 v81 v82 v83 v84 v85 v86 v87 v88 v89 v90 v91 v92 v93 v94 v95 v96 v97 v98 v99 v100 v101 v102 v103 v104 v105 v106 v107 v108 v109 v110 v111 v112 v113 v114 v115 v116 v117 v118 v119 v120 v121 v122 v123 v124 v125 v126 v127 v128 v129 v130 v131 v132 v133 v134 v135 v136 v137 v138 v139 v140 v141 v142 v143 v144 v145 v146 v147 v148 v149 v150 v151 v152 v153 v154 v155 v156 v157 v158 v159 v160 v161 v162 v163 v164 v165 v166 v167 v168 v169 v170 v171 v172 v173 v174 v175 v176 v177 v178 v179 v180 v181 v182 v183 v184 v185 v186 v187 v188 v189 v190 v191 v192 v193 v194 v195 v196 v197 v198 v199 v200 v201 v202 v203 v204 v205 v206 v207 v208 v209 v210 v211 v212 v213 v214 v215 v216 v217 v218 v219 v220 v221 v222 v223 v224 v225 v226 v227 v228 v229 v230 v231 v232 v233 v234 v235 v236 v237 v238 v239 v240 v241 v242 v243 v244 v245 v246 v247 v248 v249 v250 v251 v252 v253 v254 v255 v256 v257 v258 v259 v260 v261 v262 v263 v264 v265 v266 v267 v268 v269 v270 v271 v272 v273 v274 v275 v276 v277 v278 v279 v280 v281 v282 v283 v284 v285 v286 v287 v288 v289 v290 v291 v292 v293 v294 v295 v296 v297 v298 v299 v300 v301 v302 v303 v304 v305 v306 v307 v308 v309 v310 v311 v312 v313 v314 v315 v316 v317 v318 v319 v320 v321 v322 v323 v324 v325 v326 v327 v328 v329 v330 v331 v332 v333 v334 v335 v336 v337 v338 v339 v340 v341 v342 v343 v344 v345 v346 v347 v348 v349 v350 v351 v352 v353:Value} {K:Act→World→Prop} (HSP4:Hid (Tk.Sp R (P+1+1+1) w0 w w4 b4 b5 b8 g n1 c1)) (hP:P≤800000000) (_hnn:n1≤300000000) (hk2:k < n1) (hK:∀ a w',Code.wp Tryz.prog Tk.swBoth.2 (bodyPost Tryz.prog Tryz.f63 (Tk.WPost R (P+5) 300000000 w0 w)) a w'→K a w') :
    Code.wp Tryz.prog Tk.swBoth.1 (Exit.then K (bodyPost Tryz.prog Tryz.f63 (Tk.WPost R (P+5) 300000000 w0 w))) ⟨List.toArray (.pointer (some ⟨R,0,none⟩)::v1::v2::v3 :: .pointer (some ⟨b4,0,none⟩) :: .pointer (some ⟨b5,0,none⟩) :: .int .i64 (n1:Int) :: .int .i64 (k:Int) :: .pointer (some ⟨b8,0,none⟩)::v9::v10::v11::v12::v13::v14::v15::v16::v17::v18::v19::v20::v21::v22::v23::v24::v25::v26::v27::v28::v29::v30::v31::v32::v33::v34::v35::v36::v37::v38::v39::v40::v41::v42::v43 :: .int .i64 0::v45::v46::v47::v48::v49::v50::v51::v52::v53::v54::v55::v56::v57::v58::v59::v60::v61::v62::v63::v64::v65::v66::v67::v68::v69::v70::v71::v72::v73::v74::v75::v76::v77::v78::v79::v80::v81::v82::v83::v84::v85::v86::v87::v88::v89::v90::v91::v92::v93::v94::v95::v96::v97::v98::v99::v100::v101::v102::v103::v104::v105::v106::v107::v108::v109::v110::v111::v112::v113::v114::v115::v116::v117::v118::v119::v120::v121::v122::v123::v124::v125::v126::v127::v128::v129::v130::v131::v132::v133::v134::v135::v136::v137::v138::v139::v140::v141::v142::v143::v144::v145::v146::v147::v148::v149::v150::v151::v152::v153::v154::v155::v156::v157::v158::v159::v160::v161::v162::v163::v164::v165::v166::v167::v168::v169::v170::v171::v172::v173::v174::v175::v176::v177::v178::v179::v180::v181::v182::v183::v184::v185::v186::v187::v188::v189::v190::v191::v192::v193::v194::v195::v196::v197::v198::v199::v200::v201::v202::v203::v204::v205::v206::v207::v208::v209::v210::v211::v212::v213::v214::v215::v216::v217::v218::v219::v220::v221::v222::v223::v224::v225::v226::v227::v228::v229::v230::v231::v232::v233::v234::v235::v236::v237::v238::v239::v240::v241::v242::v243::v244::v245::v246::v247::v248::v249::v250::v251::v252::v253::v254::v255::v256::v257::v258::v259::v260::v261::v262::v263::v264::v265::v266::v267::v268::v269::v270::v271::v272::v273::v274::v275::v276::v277::v278::v279::v280::v281::v282::v283::v284::v285::v286::v287::v288::v289::v290::v291::v292::v293::v294::v295::v296::v297::v298::v299::v300::v301::v302::v303::v304::v305::v306::v307::v308::v309::v310::v311::v312::v313::v314::v315::v316::v317::v318::v319::v320::v321::v322::v323::v324::v325::v326::v327::v328::v329::v330::v331::v332::v333::v334::v335::v336::v337::v338::v339::v340::v341::v342::v343::v344::v345::v346::v347::v348::v349::v350::v351::v352::v353::[]),[]⟩ w4:=by
  have hnz2:¬ ((n1:Int)=0):=by omega
  have hnb:((n1:Int) == 0)=false:=by simpa using hnz2
  have hz4:b4 < w4.heap.size:=(Array.getElem?_eq_some_iff.1 HSP4.out.res).1
  conv at hK=>enter [a,w'];arg 1;arg 2;whnf
  conv=>arg 2;whnf
  have s0:Tk.Mk:=trivial
  go_wp2_with (first
        | (go_at_call 8
           have _t:=s0
           clear s0
           refine (Gn.pickW 27 HSP4.out.dw (by omega) (by decide) (by decide)).mono ?_
           rintro e w5 ⟨x,rfl,hx,hd5',hf5'⟩
           have S5:Tk.Sp R (P+1+1+1+1) w0 w w5 b4 b5 b8 g n1 c1:=HSP4.out.draw hd5' hf5'
           have hw:wrap64 (x - 1)=x - 1:=IntWalk.wrap64_in _ (by omega)
           obtain ⟨Y0,hY0⟩:∃ Y,w5.setCell ⟨b8,0,none⟩ (.int .i64 (x - 1))=Y:=⟨_,rfl⟩
           have SY:Tk.Sp R (P+1+1+1+1) w0 w Y0 b4 b5 b8 g n1 c1:=(by rw [← hY0];exact S5.setX (i:=0) (Tk.Fld.num _))
           obtain ⟨e5,e6,e7,_,e9,d9,hd9,k0,k1',k2',k3',k4',k5'⟩:=S5.cells
           have f5:=e9 0
           clear e9 e5 e6 e7
           obtain ⟨o5,o6,o7,o8,o9,d5,hd5,x0,x1,x2,x3,x4,x5⟩:=SY.cells
           clear o9 o8
           obtain ⟨d6,hd6,⟨z0,_,_,_,_,_⟩,hfz⟩:=Tk.Row_cells SY.row hk2
           have g0:=hfz (k * 6)
           clear hfz
           have S0:Tk.Sp R (P+1+1+1+1) w0 w Y0 b4 b5 b8 g n1 c1:=SY
           obtain ⟨Y1,hY1⟩:∃ Y,Y0.setCell ⟨g,k * 6,none⟩ (.int .i64 d5.kind)=Y:=⟨_,rfl⟩
           have S1:Tk.Sp R (P+1+1+1+1) w0 w Y1 b4 b5 b8 g n1 c1:=(by rw [← hY1];exact S0.setRow (i:=0) hk2 (by decide) (Tk.Fld.num _))
           obtain ⟨_,_,⟨_,z1,_,_,_,_⟩,hfz⟩:=Tk.Row_cells S1.row hk2
           have g1:=hfz (k * 6+1)
           clear hfz
           clear S0
           obtain ⟨Y2,hY2⟩:∃ Y,Y1.setCell ⟨g,k * 6+1,none⟩ (.int .i64 d5.op)=Y:=⟨_,rfl⟩
           have S2:Tk.Sp R (P+1+1+1+1) w0 w Y2 b4 b5 b8 g n1 c1:=(by rw [← hY2];exact S1.setRow (i:=1) hk2 (by decide) (Tk.Fld.num _))
           obtain ⟨_,_,⟨_,_,z2,_,_,_⟩,hfz⟩:=Tk.Row_cells S2.row hk2
           have g2:=hfz (k * 6+2)
           clear hfz
           clear S1
           obtain ⟨Y3,hY3⟩:∃ Y,Y2.setCell ⟨g,k * 6+2,none⟩ (.int .i64 d5.type)=Y:=⟨_,rfl⟩
           have S3:Tk.Sp R (P+1+1+1+1) w0 w Y3 b4 b5 b8 g n1 c1:=(by rw [← hY3];exact S2.setRow (i:=2) hk2 (by decide) (Tk.Fld.num _))
           obtain ⟨_,_,⟨_,_,_,z3,_,_⟩,hfz⟩:=Tk.Row_cells S3.row hk2
           have g3:=hfz (k * 6+3)
           clear hfz
           clear S2
           obtain ⟨Y4,hY4⟩:∃ Y,Y3.setCell ⟨g,k * 6+3,none⟩ (.int .i64 d5.n)=Y:=⟨_,rfl⟩
           have S4:Tk.Sp R (P+1+1+1+1) w0 w Y4 b4 b5 b8 g n1 c1:=(by rw [← hY4];exact S3.setRow (i:=3) hk2 (by decide) (Tk.Fld.num _))
           obtain ⟨_,_,⟨_,_,_,_,z4,_⟩,hfz⟩:=Tk.Row_cells S4.row hk2
           have g4:=hfz (k * 6+4)
           clear hfz
           clear S3
           obtain ⟨Y5,hY5⟩:∃ Y,Y4.setCell ⟨g,k * 6+4,none⟩ (.string d5.text)=Y:=⟨_,rfl⟩
           have S5:Tk.Sp R (P+1+1+1+1) w0 w Y5 b4 b5 b8 g n1 c1:=(by rw [← hY5];exact S4.setRow (i:=4) hk2 (by decide) (Tk.Fld.text hd5))
           obtain ⟨_,_,⟨_,_,_,_,_,z5⟩,hfz⟩:=Tk.Row_cells S5.row hk2
           have g5:=hfz (k * 6+5)
           clear hfz
           clear S4
           obtain ⟨Y6,hY6⟩:∃ Y,Y5.setCell ⟨g,k * 6+5,none⟩ (.int .i64 d5.kids)=Y:=⟨_,rfl⟩
           have S6:Tk.Sp R (P+1+1+1+1) w0 w Y6 b4 b5 b8 g n1 c1:=(by rw [← hY6];exact S5.setRow (i:=5) hk2 (by decide) (Tk.Fld.num _))
           clear S5
           obtain ⟨p5,p6,p7,_,_,_⟩:=S6.cells
           have HS6:Hid (Tk.WPost R (P+5) 300000000 w0 w (.returned (.agg #[.slice (some ⟨g,0,none⟩) n1 c1])) (Y6.setCell ⟨b4,0,none⟩ (.slice (some ⟨g,0,none⟩) n1 c1))):=(S6.mono (by omega)).fin
           clear S6
           clear S5 SY))
  exact bodyPost_ret (v:=.agg #[.slice (some ⟨g,0,none⟩) n1 c1]) (by simp [results,Tryz.results63,go_sem,p6]) rfl HS6.out
theorem Tk.spoil_2 {R P b4 b5 b8 g n1 c1 k:Nat} {w0 w w4:World} {v1 v2 v3 v9 v10 v11 v12 v13 v14 v15 v16 v17 v18 v19 v20 v21 v22 v23 v24 v25 v26 v27 v28 v29 v30 v31 v32 v33 v34 v35 v36 v37 v38 v39 v40 v41 v42 v43 v45 v46 v47 v48 v49 v50 v51 v52 v53 v54 v55 v56 v57 v58 v59 v60 v61 v62 v63 v64 v65 v66 v67 v68 v69 v70 v71 v72 v73 v74 v75 v76 v77 v78 v79 v80 v81 v82 v83 v84 v85 v86 v87 v88 v89 v90 v91 v92 v93 v94 v95 v96 v97 v98 v99 v100 v101 v102 v103 v104 v105 v106 v107 v108 v109 v110 v111 v112 v113 v114 v115 v116 v117 v118 v119 v120 v121 v122 v123 v124 v125 v126 v127 v128 v129 v130 v131 v132 v133 v134 v135 v136 v137 v138 v139 v140 v141 v142 v143 v144 v145 v146 v147 v148 v149 v150 v151 v152 v153 v154 v155 v156 v157 v158 v159 v160 v161 v162 v163 v164 v165 v166 v167 v168 v169 v170 v171 v172 v173 v174 v175 v176 v177 v178 v179 v180 v181 v182 v183 v184 v185 v186 v187 v188 v189 v190 v191 v192 v193 v194 v195 v196 v197 v198 v199 v200 v201 v202 v203 v204 v205 v206 v207 v208 v209 v210 v211 v212 v213 v214 v215 v216 v217 v218 v219 v220 v221 v222 v223 v224 v225 v226 v227 v228 v229 v230 v231 v232 v233 v234 v235 v236 v237 v238 v239 v240 v241 v242 v243 v244 v245 v246 v247 v248 v249 v250 v251 v252 v253 v254 v255 v256 v257 v258 v259 v260 v261 v262 v263 v264 v265 v266 v267 v268 v269 v270 v271 v272 v273 v274 v275 v276 v277 v278 v279 v280 v281 v282 v283 v284 v285 v286 v287 v288 v289 v290 v291 v292 v293 v294 v295 v296 v297 v298 v299 v300 v301 v302 v303 v304 v305 v306 v307 v308 v309 v310 v311 v312 v313 v314 v315 v316 v317 v318 v319 v320 v321 v322 v323 v324 v325 v326 v327 v328 v329 v330 v331 v332 v333 v334 v335 v336 v337 v338 v339 v340 v341 v342 v343 v344 v345 v346 v347 v348 v349 v350 v351 v352 v353:Value} {K:Act→World→Prop} (HSP4:Hid (Tk.Sp R (P+1+1+1) w0 w w4 b4 b5 b8 g n1 c1)) (hP:P≤800000000) (_hnn:n1≤300000000) (hk2:k < n1) (hK:∀ a w',Code.wp Tryz.prog Tk.swBoth.2 (bodyPost Tryz.prog Tryz.f63 (Tk.WPost R (P+5) 300000000 w0 w)) a w'→K a w') :
    Code.wp Tryz.prog Tk.swBoth.1 (Exit.then K (bodyPost Tryz.prog Tryz.f63 (Tk.WPost R (P+5) 300000000 w0 w))) ⟨List.toArray (.pointer (some ⟨R,0,none⟩)::v1::v2::v3 :: .pointer (some ⟨b4,0,none⟩) :: .pointer (some ⟨b5,0,none⟩) :: .int .i64 (n1:Int) :: .int .i64 (k:Int) :: .pointer (some ⟨b8,0,none⟩)::v9::v10::v11::v12::v13::v14::v15::v16::v17::v18::v19::v20::v21::v22::v23::v24::v25::v26::v27::v28::v29::v30::v31::v32::v33::v34::v35::v36::v37::v38::v39::v40::v41::v42::v43 :: .int .i64 2::v45::v46::v47::v48::v49::v50::v51::v52::v53::v54::v55::v56::v57::v58::v59::v60::v61::v62::v63::v64::v65::v66::v67::v68::v69::v70::v71::v72::v73::v74::v75::v76::v77::v78::v79::v80::v81::v82::v83::v84::v85::v86::v87::v88::v89::v90::v91::v92::v93::v94::v95::v96::v97::v98::v99::v100::v101::v102::v103::v104::v105::v106::v107::v108::v109::v110::v111::v112::v113::v114::v115::v116::v117::v118::v119::v120::v121::v122::v123::v124::v125::v126::v127::v128::v129::v130::v131::v132::v133::v134::v135::v136::v137::v138::v139::v140::v141::v142::v143::v144::v145::v146::v147::v148::v149::v150::v151::v152::v153::v154::v155::v156::v157::v158::v159::v160::v161::v162::v163::v164::v165::v166::v167::v168::v169::v170::v171::v172::v173::v174::v175::v176::v177::v178::v179::v180::v181::v182::v183::v184::v185::v186::v187::v188::v189::v190::v191::v192::v193::v194::v195::v196::v197::v198::v199::v200::v201::v202::v203::v204::v205::v206::v207::v208::v209::v210::v211::v212::v213::v214::v215::v216::v217::v218::v219::v220::v221::v222::v223::v224::v225::v226::v227::v228::v229::v230::v231::v232::v233::v234::v235::v236::v237::v238::v239::v240::v241::v242::v243::v244::v245::v246::v247::v248::v249::v250::v251::v252::v253::v254::v255::v256::v257::v258::v259::v260::v261::v262::v263::v264::v265::v266::v267::v268::v269::v270::v271::v272::v273::v274::v275::v276::v277::v278::v279::v280::v281::v282::v283::v284::v285::v286::v287::v288::v289::v290::v291::v292::v293::v294::v295::v296::v297::v298::v299::v300::v301::v302::v303::v304::v305::v306::v307::v308::v309::v310::v311::v312::v313::v314::v315::v316::v317::v318::v319::v320::v321::v322::v323::v324::v325::v326::v327::v328::v329::v330::v331::v332::v333::v334::v335::v336::v337::v338::v339::v340::v341::v342::v343::v344::v345::v346::v347::v348::v349::v350::v351::v352::v353::[]),[]⟩ w4:=by
  have hnz2:¬ ((n1:Int)=0):=by omega
  have hnb:((n1:Int) == 0)=false:=by simpa using hnz2
  have hz4:b4 < w4.heap.size:=(Array.getElem?_eq_some_iff.1 HSP4.out.res).1
  conv at hK=>enter [a,w'];arg 1;arg 2;whnf
  conv=>arg 2;whnf
  have s0:Tk.Mk:=trivial
  go_wp2_with (first
        | (go_at_call 8
           have _t:=s0
           clear s0
           refine (Gn.pickW 13 HSP4.out.dw (by omega) (by decide) (by decide)).mono ?_
           rintro e w5 ⟨x,rfl,hx,hd5',hf5'⟩
           have S5:Tk.Sp R (P+1+1+1+1) w0 w w5 b4 b5 b8 g n1 c1:=HSP4.out.draw hd5' hf5'
           have hw:wrap64 (x - 1)=x - 1:=IntWalk.wrap64_in _ (by omega)
           obtain ⟨Y0,hY0⟩:∃ Y,w5.setCell ⟨b8,2,none⟩ (.int .i64 (x - 1))=Y:=⟨_,rfl⟩
           have SY:Tk.Sp R (P+1+1+1+1) w0 w Y0 b4 b5 b8 g n1 c1:=(by rw [← hY0];exact S5.setX (i:=2) (Tk.Fld.num _))
           obtain ⟨e5,e6,e7,_,e9,d9,hd9,k0,k1',k2',k3',k4',k5'⟩:=S5.cells
           have f5:=e9 2
           clear e9 e5 e6 e7
           obtain ⟨o5,o6,o7,o8,o9,d5,hd5,x0,x1,x2,x3,x4,x5⟩:=SY.cells
           clear o9 o8
           obtain ⟨d6,hd6,⟨z0,_,_,_,_,_⟩,hfz⟩:=Tk.Row_cells SY.row hk2
           have g0:=hfz (k * 6)
           clear hfz
           have S0:Tk.Sp R (P+1+1+1+1) w0 w Y0 b4 b5 b8 g n1 c1:=SY
           obtain ⟨Y1,hY1⟩:∃ Y,Y0.setCell ⟨g,k * 6,none⟩ (.int .i64 d5.kind)=Y:=⟨_,rfl⟩
           have S1:Tk.Sp R (P+1+1+1+1) w0 w Y1 b4 b5 b8 g n1 c1:=(by rw [← hY1];exact S0.setRow (i:=0) hk2 (by decide) (Tk.Fld.num _))
           obtain ⟨_,_,⟨_,z1,_,_,_,_⟩,hfz⟩:=Tk.Row_cells S1.row hk2
           have g1:=hfz (k * 6+1)
           clear hfz
           clear S0
           obtain ⟨Y2,hY2⟩:∃ Y,Y1.setCell ⟨g,k * 6+1,none⟩ (.int .i64 d5.op)=Y:=⟨_,rfl⟩
           have S2:Tk.Sp R (P+1+1+1+1) w0 w Y2 b4 b5 b8 g n1 c1:=(by rw [← hY2];exact S1.setRow (i:=1) hk2 (by decide) (Tk.Fld.num _))
           obtain ⟨_,_,⟨_,_,z2,_,_,_⟩,hfz⟩:=Tk.Row_cells S2.row hk2
           have g2:=hfz (k * 6+2)
           clear hfz
           clear S1
           obtain ⟨Y3,hY3⟩:∃ Y,Y2.setCell ⟨g,k * 6+2,none⟩ (.int .i64 d5.type)=Y:=⟨_,rfl⟩
           have S3:Tk.Sp R (P+1+1+1+1) w0 w Y3 b4 b5 b8 g n1 c1:=(by rw [← hY3];exact S2.setRow (i:=2) hk2 (by decide) (Tk.Fld.num _))
           obtain ⟨_,_,⟨_,_,_,z3,_,_⟩,hfz⟩:=Tk.Row_cells S3.row hk2
           have g3:=hfz (k * 6+3)
           clear hfz
           clear S2
           obtain ⟨Y4,hY4⟩:∃ Y,Y3.setCell ⟨g,k * 6+3,none⟩ (.int .i64 d5.n)=Y:=⟨_,rfl⟩
           have S4:Tk.Sp R (P+1+1+1+1) w0 w Y4 b4 b5 b8 g n1 c1:=(by rw [← hY4];exact S3.setRow (i:=3) hk2 (by decide) (Tk.Fld.num _))
           obtain ⟨_,_,⟨_,_,_,_,z4,_⟩,hfz⟩:=Tk.Row_cells S4.row hk2
           have g4:=hfz (k * 6+4)
           clear hfz
           clear S3
           obtain ⟨Y5,hY5⟩:∃ Y,Y4.setCell ⟨g,k * 6+4,none⟩ (.string d5.text)=Y:=⟨_,rfl⟩
           have S5:Tk.Sp R (P+1+1+1+1) w0 w Y5 b4 b5 b8 g n1 c1:=(by rw [← hY5];exact S4.setRow (i:=4) hk2 (by decide) (Tk.Fld.text hd5))
           obtain ⟨_,_,⟨_,_,_,_,_,z5⟩,hfz⟩:=Tk.Row_cells S5.row hk2
           have g5:=hfz (k * 6+5)
           clear hfz
           clear S4
           obtain ⟨Y6,hY6⟩:∃ Y,Y5.setCell ⟨g,k * 6+5,none⟩ (.int .i64 d5.kids)=Y:=⟨_,rfl⟩
           have S6:Tk.Sp R (P+1+1+1+1) w0 w Y6 b4 b5 b8 g n1 c1:=(by rw [← hY6];exact S5.setRow (i:=5) hk2 (by decide) (Tk.Fld.num _))
           clear S5
           obtain ⟨p5,p6,p7,_,_,_⟩:=S6.cells
           have HS6:Hid (Tk.WPost R (P+5) 300000000 w0 w (.returned (.agg #[.slice (some ⟨g,0,none⟩) n1 c1])) (Y6.setCell ⟨b4,0,none⟩ (.slice (some ⟨g,0,none⟩) n1 c1))):=(S6.mono (by omega)).fin
           clear S6
           clear S5 SY))
  exact bodyPost_ret (v:=.agg #[.slice (some ⟨g,0,none⟩) n1 c1]) (by simp [results,Tryz.results63,go_sem,p6]) rfl HS6.out
theorem Tk.spoil_3 {R P b4 b5 b8 g n1 c1 k:Nat} {w0 w w4:World} {v1 v2 v3 v9 v10 v11 v12 v13 v14 v15 v16 v17 v18 v19 v20 v21 v22 v23 v24 v25 v26 v27 v28 v29 v30 v31 v32 v33 v34 v35 v36 v37 v38 v39 v40 v41 v42 v43 v45 v46 v47 v48 v49 v50 v51 v52 v53 v54 v55 v56 v57 v58 v59 v60 v61 v62 v63 v64 v65 v66 v67 v68 v69 v70 v71 v72 v73 v74 v75 v76 v77 v78 v79 v80 v81 v82 v83 v84 v85 v86 v87 v88 v89 v90 v91 v92 v93 v94 v95 v96 v97 v98 v99 v100 v101 v102 v103 v104 v105 v106 v107 v108 v109 v110 v111 v112 v113 v114 v115 v116 v117 v118 v119 v120 v121 v122 v123 v124 v125 v126 v127 v128 v129 v130 v131 v132 v133 v134 v135 v136 v137 v138 v139 v140 v141 v142 v143 v144 v145 v146 v147 v148 v149 v150 v151 v152 v153 v154 v155 v156 v157 v158 v159 v160 v161 v162 v163 v164 v165 v166 v167 v168 v169 v170 v171 v172 v173 v174 v175 v176 v177 v178 v179 v180 v181 v182 v183 v184 v185 v186 v187 v188 v189 v190 v191 v192 v193 v194 v195 v196 v197 v198 v199 v200 v201 v202 v203 v204 v205 v206 v207 v208 v209 v210 v211 v212 v213 v214 v215 v216 v217 v218 v219 v220 v221 v222 v223 v224 v225 v226 v227 v228 v229 v230 v231 v232 v233 v234 v235 v236 v237 v238 v239 v240 v241 v242 v243 v244 v245 v246 v247 v248 v249 v250 v251 v252 v253 v254 v255 v256 v257 v258 v259 v260 v261 v262 v263 v264 v265 v266 v267 v268 v269 v270 v271 v272 v273 v274 v275 v276 v277 v278 v279 v280 v281 v282 v283 v284 v285 v286 v287 v288 v289 v290 v291 v292 v293 v294 v295 v296 v297 v298 v299 v300 v301 v302 v303 v304 v305 v306 v307 v308 v309 v310 v311 v312 v313 v314 v315 v316 v317 v318 v319 v320 v321 v322 v323 v324 v325 v326 v327 v328 v329 v330 v331 v332 v333 v334 v335 v336 v337 v338 v339 v340 v341 v342 v343 v344 v345 v346 v347 v348 v349 v350 v351 v352 v353:Value} {K:Act→World→Prop} (HSP4:Hid (Tk.Sp R (P+1+1+1) w0 w w4 b4 b5 b8 g n1 c1)) (hP:P≤800000000) (_hnn:n1≤300000000) (hk2:k < n1) (hK:∀ a w',Code.wp Tryz.prog Tk.swBoth.2 (bodyPost Tryz.prog Tryz.f63 (Tk.WPost R (P+5) 300000000 w0 w)) a w'→K a w') :
    Code.wp Tryz.prog Tk.swBoth.1 (Exit.then K (bodyPost Tryz.prog Tryz.f63 (Tk.WPost R (P+5) 300000000 w0 w))) ⟨List.toArray (.pointer (some ⟨R,0,none⟩)::v1::v2::v3 :: .pointer (some ⟨b4,0,none⟩) :: .pointer (some ⟨b5,0,none⟩) :: .int .i64 (n1:Int) :: .int .i64 (k:Int) :: .pointer (some ⟨b8,0,none⟩)::v9::v10::v11::v12::v13::v14::v15::v16::v17::v18::v19::v20::v21::v22::v23::v24::v25::v26::v27::v28::v29::v30::v31::v32::v33::v34::v35::v36::v37::v38::v39::v40::v41::v42::v43 :: .int .i64 3::v45::v46::v47::v48::v49::v50::v51::v52::v53::v54::v55::v56::v57::v58::v59::v60::v61::v62::v63::v64::v65::v66::v67::v68::v69::v70::v71::v72::v73::v74::v75::v76::v77::v78::v79::v80::v81::v82::v83::v84::v85::v86::v87::v88::v89::v90::v91::v92::v93::v94::v95::v96::v97::v98::v99::v100::v101::v102::v103::v104::v105::v106::v107::v108::v109::v110::v111::v112::v113::v114::v115::v116::v117::v118::v119::v120::v121::v122::v123::v124::v125::v126::v127::v128::v129::v130::v131::v132::v133::v134::v135::v136::v137::v138::v139::v140::v141::v142::v143::v144::v145::v146::v147::v148::v149::v150::v151::v152::v153::v154::v155::v156::v157::v158::v159::v160::v161::v162::v163::v164::v165::v166::v167::v168::v169::v170::v171::v172::v173::v174::v175::v176::v177::v178::v179::v180::v181::v182::v183::v184::v185::v186::v187::v188::v189::v190::v191::v192::v193::v194::v195::v196::v197::v198::v199::v200::v201::v202::v203::v204::v205::v206::v207::v208::v209::v210::v211::v212::v213::v214::v215::v216::v217::v218::v219::v220::v221::v222::v223::v224::v225::v226::v227::v228::v229::v230::v231::v232::v233::v234::v235::v236::v237::v238::v239::v240::v241::v242::v243::v244::v245::v246::v247::v248::v249::v250::v251::v252::v253::v254::v255::v256::v257::v258::v259::v260::v261::v262::v263::v264::v265::v266::v267::v268::v269::v270::v271::v272::v273::v274::v275::v276::v277::v278::v279::v280::v281::v282::v283::v284::v285::v286::v287::v288::v289::v290::v291::v292::v293::v294::v295::v296::v297::v298::v299::v300::v301::v302::v303::v304::v305::v306::v307::v308::v309::v310::v311::v312::v313::v314::v315::v316::v317::v318::v319::v320::v321::v322::v323::v324::v325::v326::v327::v328::v329::v330::v331::v332::v333::v334::v335::v336::v337::v338::v339::v340::v341::v342::v343::v344::v345::v346::v347::v348::v349::v350::v351::v352::v353::[]),[]⟩ w4:=by
  have hnz2:¬ ((n1:Int)=0):=by omega
  have hnb:((n1:Int) == 0)=false:=by simpa using hnz2
  have hz4:b4 < w4.heap.size:=(Array.getElem?_eq_some_iff.1 HSP4.out.res).1
  conv at hK=>enter [a,w'];arg 1;arg 2;whnf
  conv=>arg 2;whnf
  have s0:Tk.Mk:=trivial
  have ST:Tk.Sp R (P+1+1+1) w0 w (w4.alloc (.cells #[.int .i64 (-1),.int .i64 0,.int .i64 1,.int .i64 2,.int .i64 255,.int .i64 256,.int .i64 65536,.int .i64 (-128)] 2)) b4 b5 b8 g n1 c1:=HSP4.out.below (Tk.up1 w4 _)
  go_wp2_with (first
        | (go_at_call 8
           have _t:=s0
           clear s0
           refine (Gn.pickWN 8 ST.dw (by omega) (by decide) (by decide)).mono ?_
           rintro e w5 ⟨x,rfl,hx,hd5',hf5'⟩
           have S5:Tk.Sp R (P+1+1+1+1) w0 w w5 b4 b5 b8 g n1 c1:=ST.draw hd5' hf5'
           obtain ⟨z,hz⟩:=Tk.tab_int (hf5'.blk (World.alloc_heap_new w4 _) (by decide)) (by decide) x (by have h9:x < 8:=(by omega);simpa using h9)
           obtain ⟨Y0,hY0⟩:∃ Y,w5.setCell ⟨b8,3,none⟩ (.int .i64 z)=Y:=⟨_,rfl⟩
           have SY:Tk.Sp R (P+1+1+1+1) w0 w Y0 b4 b5 b8 g n1 c1:=(by rw [← hY0];exact S5.setX (i:=3) (Tk.Fld.num _))
           obtain ⟨e5,e6,e7,_,e9,d9,hd9,k0,k1',k2',k3',k4',k5'⟩:=S5.cells
           have f5:=e9 3
           clear e9 e5 e6 e7
           obtain ⟨o5,o6,o7,o8,o9,d5,hd5,x0,x1,x2,x3,x4,x5⟩:=SY.cells
           clear o9 o8
           obtain ⟨d6,hd6,⟨z0,_,_,_,_,_⟩,hfz⟩:=Tk.Row_cells SY.row hk2
           have g0:=hfz (k * 6)
           clear hfz
           have S0:Tk.Sp R (P+1+1+1+1) w0 w Y0 b4 b5 b8 g n1 c1:=SY
           obtain ⟨Y1,hY1⟩:∃ Y,Y0.setCell ⟨g,k * 6,none⟩ (.int .i64 d5.kind)=Y:=⟨_,rfl⟩
           have S1:Tk.Sp R (P+1+1+1+1) w0 w Y1 b4 b5 b8 g n1 c1:=(by rw [← hY1];exact S0.setRow (i:=0) hk2 (by decide) (Tk.Fld.num _))
           obtain ⟨_,_,⟨_,z1,_,_,_,_⟩,hfz⟩:=Tk.Row_cells S1.row hk2
           have g1:=hfz (k * 6+1)
           clear hfz
           clear S0
           obtain ⟨Y2,hY2⟩:∃ Y,Y1.setCell ⟨g,k * 6+1,none⟩ (.int .i64 d5.op)=Y:=⟨_,rfl⟩
           have S2:Tk.Sp R (P+1+1+1+1) w0 w Y2 b4 b5 b8 g n1 c1:=(by rw [← hY2];exact S1.setRow (i:=1) hk2 (by decide) (Tk.Fld.num _))
           obtain ⟨_,_,⟨_,_,z2,_,_,_⟩,hfz⟩:=Tk.Row_cells S2.row hk2
           have g2:=hfz (k * 6+2)
           clear hfz
           clear S1
           obtain ⟨Y3,hY3⟩:∃ Y,Y2.setCell ⟨g,k * 6+2,none⟩ (.int .i64 d5.type)=Y:=⟨_,rfl⟩
           have S3:Tk.Sp R (P+1+1+1+1) w0 w Y3 b4 b5 b8 g n1 c1:=(by rw [← hY3];exact S2.setRow (i:=2) hk2 (by decide) (Tk.Fld.num _))
           obtain ⟨_,_,⟨_,_,_,z3,_,_⟩,hfz⟩:=Tk.Row_cells S3.row hk2
           have g3:=hfz (k * 6+3)
           clear hfz
           clear S2
           obtain ⟨Y4,hY4⟩:∃ Y,Y3.setCell ⟨g,k * 6+3,none⟩ (.int .i64 d5.n)=Y:=⟨_,rfl⟩
           have S4:Tk.Sp R (P+1+1+1+1) w0 w Y4 b4 b5 b8 g n1 c1:=(by rw [← hY4];exact S3.setRow (i:=3) hk2 (by decide) (Tk.Fld.num _))
           obtain ⟨_,_,⟨_,_,_,_,z4,_⟩,hfz⟩:=Tk.Row_cells S4.row hk2
           have g4:=hfz (k * 6+4)
           clear hfz
           clear S3
           obtain ⟨Y5,hY5⟩:∃ Y,Y4.setCell ⟨g,k * 6+4,none⟩ (.string d5.text)=Y:=⟨_,rfl⟩
           have S5:Tk.Sp R (P+1+1+1+1) w0 w Y5 b4 b5 b8 g n1 c1:=(by rw [← hY5];exact S4.setRow (i:=4) hk2 (by decide) (Tk.Fld.text hd5))
           obtain ⟨_,_,⟨_,_,_,_,_,z5⟩,hfz⟩:=Tk.Row_cells S5.row hk2
           have g5:=hfz (k * 6+5)
           clear hfz
           clear S4
           obtain ⟨Y6,hY6⟩:∃ Y,Y5.setCell ⟨g,k * 6+5,none⟩ (.int .i64 d5.kids)=Y:=⟨_,rfl⟩
           have S6:Tk.Sp R (P+1+1+1+1) w0 w Y6 b4 b5 b8 g n1 c1:=(by rw [← hY6];exact S5.setRow (i:=5) hk2 (by decide) (Tk.Fld.num _))
           clear S5
           obtain ⟨p5,p6,p7,_,_,_⟩:=S6.cells
           have HS6:Hid (Tk.WPost R (P+5) 300000000 w0 w (.returned (.agg #[.slice (some ⟨g,0,none⟩) n1 c1])) (Y6.setCell ⟨b4,0,none⟩ (.slice (some ⟨g,0,none⟩) n1 c1))):=(S6.mono (by omega)).fin
           clear S6
           clear S5 SY ST))
  exact bodyPost_ret (v:=.agg #[.slice (some ⟨g,0,none⟩) n1 c1]) (by simp [results,Tryz.results63,go_sem,p6]) rfl HS6.out
theorem Tk.spoil_4 {R P b4 b5 b8 g n1 c1 k:Nat} {w0 w w4:World} {v1 v2 v3 v9 v10 v11 v12 v13 v14 v15 v16 v17 v18 v19 v20 v21 v22 v23 v24 v25 v26 v27 v28 v29 v30 v31 v32 v33 v34 v35 v36 v37 v38 v39 v40 v41 v42 v43 v45 v46 v47 v48 v49 v50 v51 v52 v53 v54 v55 v56 v57 v58 v59 v60 v61 v62 v63 v64 v65 v66 v67 v68 v69 v70 v71 v72 v73 v74 v75 v76 v77 v78 v79 v80 v81 v82 v83 v84 v85 v86 v87 v88 v89 v90 v91 v92 v93 v94 v95 v96 v97 v98 v99 v100 v101 v102 v103 v104 v105 v106 v107 v108 v109 v110 v111 v112 v113 v114 v115 v116 v117 v118 v119 v120 v121 v122 v123 v124 v125 v126 v127 v128 v129 v130 v131 v132 v133 v134 v135 v136 v137 v138 v139 v140 v141 v142 v143 v144 v145 v146 v147 v148 v149 v150 v151 v152 v153 v154 v155 v156 v157 v158 v159 v160 v161 v162 v163 v164 v165 v166 v167 v168 v169 v170 v171 v172 v173 v174 v175 v176 v177 v178 v179 v180 v181 v182 v183 v184 v185 v186 v187 v188 v189 v190 v191 v192 v193 v194 v195 v196 v197 v198 v199 v200 v201 v202 v203 v204 v205 v206 v207 v208 v209 v210 v211 v212 v213 v214 v215 v216 v217 v218 v219 v220 v221 v222 v223 v224 v225 v226 v227 v228 v229 v230 v231 v232 v233 v234 v235 v236 v237 v238 v239 v240 v241 v242 v243 v244 v245 v246 v247 v248 v249 v250 v251 v252 v253 v254 v255 v256 v257 v258 v259 v260 v261 v262 v263 v264 v265 v266 v267 v268 v269 v270 v271 v272 v273 v274 v275 v276 v277 v278 v279 v280 v281 v282 v283 v284 v285 v286 v287 v288 v289 v290 v291 v292 v293 v294 v295 v296 v297 v298 v299 v300 v301 v302 v303 v304 v305 v306 v307 v308 v309 v310 v311 v312 v313 v314 v315 v316 v317 v318 v319 v320 v321 v322 v323 v324 v325 v326 v327 v328 v329 v330 v331 v332 v333 v334 v335 v336 v337 v338 v339 v340 v341 v342 v343 v344 v345 v346 v347 v348 v349 v350 v351 v352 v353:Value} {K:Act→World→Prop} (HSP4:Hid (Tk.Sp R (P+1+1+1) w0 w w4 b4 b5 b8 g n1 c1)) (hP:P≤800000000) (_hnn:n1≤300000000) (hk2:k < n1) (hK:∀ a w',Code.wp Tryz.prog Tk.swBoth.2 (bodyPost Tryz.prog Tryz.f63 (Tk.WPost R (P+5) 300000000 w0 w)) a w'→K a w') :
    Code.wp Tryz.prog Tk.swBoth.1 (Exit.then K (bodyPost Tryz.prog Tryz.f63 (Tk.WPost R (P+5) 300000000 w0 w))) ⟨List.toArray (.pointer (some ⟨R,0,none⟩)::v1::v2::v3 :: .pointer (some ⟨b4,0,none⟩) :: .pointer (some ⟨b5,0,none⟩) :: .int .i64 (n1:Int) :: .int .i64 (k:Int) :: .pointer (some ⟨b8,0,none⟩)::v9::v10::v11::v12::v13::v14::v15::v16::v17::v18::v19::v20::v21::v22::v23::v24::v25::v26::v27::v28::v29::v30::v31::v32::v33::v34::v35::v36::v37::v38::v39::v40::v41::v42::v43 :: .int .i64 4::v45::v46::v47::v48::v49::v50::v51::v52::v53::v54::v55::v56::v57::v58::v59::v60::v61::v62::v63::v64::v65::v66::v67::v68::v69::v70::v71::v72::v73::v74::v75::v76::v77::v78::v79::v80::v81::v82::v83::v84::v85::v86::v87::v88::v89::v90::v91::v92::v93::v94::v95::v96::v97::v98::v99::v100::v101::v102::v103::v104::v105::v106::v107::v108::v109::v110::v111::v112::v113::v114::v115::v116::v117::v118::v119::v120::v121::v122::v123::v124::v125::v126::v127::v128::v129::v130::v131::v132::v133::v134::v135::v136::v137::v138::v139::v140::v141::v142::v143::v144::v145::v146::v147::v148::v149::v150::v151::v152::v153::v154::v155::v156::v157::v158::v159::v160::v161::v162::v163::v164::v165::v166::v167::v168::v169::v170::v171::v172::v173::v174::v175::v176::v177::v178::v179::v180::v181::v182::v183::v184::v185::v186::v187::v188::v189::v190::v191::v192::v193::v194::v195::v196::v197::v198::v199::v200::v201::v202::v203::v204::v205::v206::v207::v208::v209::v210::v211::v212::v213::v214::v215::v216::v217::v218::v219::v220::v221::v222::v223::v224::v225::v226::v227::v228::v229::v230::v231::v232::v233::v234::v235::v236::v237::v238::v239::v240::v241::v242::v243::v244::v245::v246::v247::v248::v249::v250::v251::v252::v253::v254::v255::v256::v257::v258::v259::v260::v261::v262::v263::v264::v265::v266::v267::v268::v269::v270::v271::v272::v273::v274::v275::v276::v277::v278::v279::v280::v281::v282::v283::v284::v285::v286::v287::v288::v289::v290::v291::v292::v293::v294::v295::v296::v297::v298::v299::v300::v301::v302::v303::v304::v305::v306::v307::v308::v309::v310::v311::v312::v313::v314::v315::v316::v317::v318::v319::v320::v321::v322::v323::v324::v325::v326::v327::v328::v329::v330::v331::v332::v333::v334::v335::v336::v337::v338::v339::v340::v341::v342::v343::v344::v345::v346::v347::v348::v349::v350::v351::v352::v353::[]),[]⟩ w4:=by
  have hnz2:¬ ((n1:Int)=0):=by omega
  have hnb:((n1:Int) == 0)=false:=by simpa using hnz2
  have hz4:b4 < w4.heap.size:=(Array.getElem?_eq_some_iff.1 HSP4.out.res).1
  conv at hK=>enter [a,w'];arg 1;arg 2;whnf
  conv=>arg 2;whnf
  have s0:Tk.Mk:=trivial
  have s1:Tk.Mk:=trivial
  go_wp2_with (first
        | (go_at_call 9
           have _t:=s1
           clear s1
           refine (Tk.many31 w4).mono ?_
           rintro e wm ⟨tm,rfl,htm,hbm⟩
           have ST:Tk.Sp R (P+1+1+1) w0 w (wm.alloc (.cells #[.string ⟨#[]⟩,.string ⟨#[109,97,105,110]⟩,.string ⟨#[118,49]⟩,.string ⟨#[118,50]⟩,.string ⟨#[112,48]⟩,.string ⟨#[102,48]⟩,.string ⟨#[108,101,116]⟩,.string ⟨#[57,120]⟩,.string ⟨#[65]⟩,.string tm] 9)) b4 b5 b8 g n1 c1:=(HSP4.out.below hbm).below (Tk.up1 wm _))
        | (go_at_call 8
           have _t:=s0
           clear s0
           refine (Gn.pickWN 10 ST.dw (by omega) (by decide) (by decide)).mono ?_
           rintro e w5 ⟨x,rfl,hx,hd5',hf5'⟩
           have S5:Tk.Sp R (P+1+1+1+1) w0 w w5 b4 b5 b8 g n1 c1:=ST.draw hd5' hf5'
           obtain ⟨z,hz,hzs⟩:=Tk.tab_str (M:=100) (hf5'.blk (World.alloc_heap_new wm _) (by decide)) (Tk.ten_ok htm) x (by have h9:x < 10:=(by omega);simpa using h9)
           obtain ⟨Y0,hY0⟩:∃ Y,w5.setCell ⟨b8,4,none⟩ (.string z)=Y:=⟨_,rfl⟩
           have SY:Tk.Sp R (P+1+1+1+1) w0 w Y0 b4 b5 b8 g n1 c1:=(by rw [← hY0];exact S5.setX (i:=4) (Tk.Fld.text hzs))
           obtain ⟨e5,e6,e7,_,e9,d9,hd9,k0,k1',k2',k3',k4',k5'⟩:=S5.cells
           have f5:=e9 4
           clear e9 e5 e6 e7
           obtain ⟨o5,o6,o7,o8,o9,d5,hd5,x0,x1,x2,x3,x4,x5⟩:=SY.cells
           clear o9 o8
           obtain ⟨d6,hd6,⟨z0,_,_,_,_,_⟩,hfz⟩:=Tk.Row_cells SY.row hk2
           have g0:=hfz (k * 6)
           clear hfz
           have S0:Tk.Sp R (P+1+1+1+1) w0 w Y0 b4 b5 b8 g n1 c1:=SY
           obtain ⟨Y1,hY1⟩:∃ Y,Y0.setCell ⟨g,k * 6,none⟩ (.int .i64 d5.kind)=Y:=⟨_,rfl⟩
           have S1:Tk.Sp R (P+1+1+1+1) w0 w Y1 b4 b5 b8 g n1 c1:=(by rw [← hY1];exact S0.setRow (i:=0) hk2 (by decide) (Tk.Fld.num _))
           obtain ⟨_,_,⟨_,z1,_,_,_,_⟩,hfz⟩:=Tk.Row_cells S1.row hk2
           have g1:=hfz (k * 6+1)
           clear hfz
           clear S0
           obtain ⟨Y2,hY2⟩:∃ Y,Y1.setCell ⟨g,k * 6+1,none⟩ (.int .i64 d5.op)=Y:=⟨_,rfl⟩
           have S2:Tk.Sp R (P+1+1+1+1) w0 w Y2 b4 b5 b8 g n1 c1:=(by rw [← hY2];exact S1.setRow (i:=1) hk2 (by decide) (Tk.Fld.num _))
           obtain ⟨_,_,⟨_,_,z2,_,_,_⟩,hfz⟩:=Tk.Row_cells S2.row hk2
           have g2:=hfz (k * 6+2)
           clear hfz
           clear S1
           obtain ⟨Y3,hY3⟩:∃ Y,Y2.setCell ⟨g,k * 6+2,none⟩ (.int .i64 d5.type)=Y:=⟨_,rfl⟩
           have S3:Tk.Sp R (P+1+1+1+1) w0 w Y3 b4 b5 b8 g n1 c1:=(by rw [← hY3];exact S2.setRow (i:=2) hk2 (by decide) (Tk.Fld.num _))
           obtain ⟨_,_,⟨_,_,_,z3,_,_⟩,hfz⟩:=Tk.Row_cells S3.row hk2
           have g3:=hfz (k * 6+3)
           clear hfz
           clear S2
           obtain ⟨Y4,hY4⟩:∃ Y,Y3.setCell ⟨g,k * 6+3,none⟩ (.int .i64 d5.n)=Y:=⟨_,rfl⟩
           have S4:Tk.Sp R (P+1+1+1+1) w0 w Y4 b4 b5 b8 g n1 c1:=(by rw [← hY4];exact S3.setRow (i:=3) hk2 (by decide) (Tk.Fld.num _))
           obtain ⟨_,_,⟨_,_,_,_,z4,_⟩,hfz⟩:=Tk.Row_cells S4.row hk2
           have g4:=hfz (k * 6+4)
           clear hfz
           clear S3
           obtain ⟨Y5,hY5⟩:∃ Y,Y4.setCell ⟨g,k * 6+4,none⟩ (.string d5.text)=Y:=⟨_,rfl⟩
           have S5:Tk.Sp R (P+1+1+1+1) w0 w Y5 b4 b5 b8 g n1 c1:=(by rw [← hY5];exact S4.setRow (i:=4) hk2 (by decide) (Tk.Fld.text hd5))
           obtain ⟨_,_,⟨_,_,_,_,_,z5⟩,hfz⟩:=Tk.Row_cells S5.row hk2
           have g5:=hfz (k * 6+5)
           clear hfz
           clear S4
           obtain ⟨Y6,hY6⟩:∃ Y,Y5.setCell ⟨g,k * 6+5,none⟩ (.int .i64 d5.kids)=Y:=⟨_,rfl⟩
           have S6:Tk.Sp R (P+1+1+1+1) w0 w Y6 b4 b5 b8 g n1 c1:=(by rw [← hY6];exact S5.setRow (i:=5) hk2 (by decide) (Tk.Fld.num _))
           clear S5
           obtain ⟨p5,p6,p7,_,_,_⟩:=S6.cells
           have HS6:Hid (Tk.WPost R (P+5) 300000000 w0 w (.returned (.agg #[.slice (some ⟨g,0,none⟩) n1 c1])) (Y6.setCell ⟨b4,0,none⟩ (.slice (some ⟨g,0,none⟩) n1 c1))):=(S6.mono (by omega)).fin
           clear S6
           clear S5 SY ST))
  exact bodyPost_ret (v:=.agg #[.slice (some ⟨g,0,none⟩) n1 c1]) (by simp [results,Tryz.results63,go_sem,p6]) rfl HS6.out
end Go.Proofs.YtfoimmnlojjfbaaGreatDoor
