import Derived.Test.YtjlaedokfbcbpaaGreatDoorKPriZA
import Derived.Deep.CutBlock
import Derived.Deep.DeepCutAuto
set_option maxRecDepth 100000
set_option maxHeartbeats 8000000
namespace Go.Proofs.YtjlaedokfbcbpaaGreatDoor
open Go.RowKit Proofs.Tryz
theorem Tk.Row_some {A K n c:Nat} {w:World} {a:Option Addr} (h:As A w (.slice a n c) K) (hn:n≠0):∃ g,a=some (OK g 0):=by
 obtain⟨l,j,k,f⟩:=h;rcases f.2 with⟨e,i⟩|⟨g,b,d,e,_⟩
 ·injection e with _ e1 _;exact absurd e1 hn
 ·injection e with e1 _ _;exact⟨g,e1⟩
theorem Tk.k14 {k:Int} (h:0<=k/\k < 14):(k=0/\Tk.Mk)\/(k=1/\Tk.Mk)\/(k=2/\Tk.Mk)\/(k=3/\Tk.Mk)\/(k=4/\Tk.Mk)\/(k=5/\Tk.Mk)\/(k=6/\Tk.Mk)\/(k=7/\Tk.Mk)\/(k=8/\Tk.Mk)\/(k=9/\Tk.Mk)\/(k=10/\Tk.Mk)\/(k=11/\Tk.Mk)\/(k=12/\Tk.Mk)\/(k=13/\Tk.Mk):=by
 simp only[Tk.Mk,and_true];omega
def Tk.intB : Value->Bool
 | .int .i64 z=>decide (-9223372036854775808<=z/\z<=9223372036854775807)
 | _=>false
theorem Tk.intB_of {v:Value} (h:Tk.intB v=true):∃ z:Int,v = .int .i64 z /\ -9223372036854775808<=z/\z<=9223372036854775807:=by
 unfold Tk.intB at h;split at h
 ·exact⟨_,rfl,of_decide_eq_true h⟩
 ·cases h
theorem Tk.tab_int {W:World} {b T:Nat} {cs:Array Value} (h:W.heap[b]? = some (.cells cs T)) (hM:cs.toList.all Tk.intB=true) (v:Nat) (hv:v < cs.size):∃ z:Int,W.cell? (OK b v)=some (.int .i64 z) /\ -9223372036854775808<=z/\z<=9223372036854775807:=by
 obtain⟨z,c,a⟩:=Tk.intB_of (List.all_eq_true.1 hM cs[v] (Array.getElem_mem_toList hv));exact⟨z,by rw[Lib.cell_of_heap h,Array.getElem?_eq_getElem hv,c],a⟩
theorem Tk.tab_str {W:World} {b T M:Nat} {cs:Array Value} (h:W.heap[b]? = some (.cells cs T)) (hM:cs.toList.all (Jr M)=true) (v:Nat) (hv:v < cs.size):∃ z:ByteArray,W.cell? (OK b v)=some (.string z)/\z.size<=M:=by
 obtain⟨z,c,a⟩:=Mn (List.all_eq_true.1 hM cs[v] (Array.getElem_mem_toList hv));exact⟨z,by rw[Lib.cell_of_heap h,Array.getElem?_eq_getElem hv,c],a⟩
theorem Tk.many31 (w:World):Calls prog 58 #[.string ⟨#[110]⟩,.int .i64 31] w fun e w' => ∃ t:ByteArray,e = .returned (.string t)/\t.size<=31/\Below w.heap.size w w':=by
 refine(l1Many_any _ 31 w OD OC).mono ?_;rintro e w' ⟨t,c,d,b⟩;have a:(⟨#[110]⟩:ByteArray).size=1:=rfl;rw[a]at d;exact⟨t,c,by omega,b⟩
theorem Tk.ten_ok {tm:ByteArray} (h:tm.size<=31):(#[.string ⟨#[]⟩,.string ⟨#[109,97,105,110]⟩,.string ⟨#[118,49]⟩,.string ⟨#[118,50]⟩,.string ⟨#[112,48]⟩,.string ⟨#[102,48]⟩,.string ⟨#[108,101,116]⟩,.string ⟨#[57,120]⟩,.string ⟨#[65]⟩,.string tm]:Array Value).toList.all (Jr 100)=true:=by
 have a:Jr 100 (.string tm)=true:=by simp[Jr];omega
 simp only[List.all_cons,List.all_nil,a,Bool.and_true];decide
theorem Tk.Sp.mono {R P P':Nat} {w0 w W:World} {b4 b5 b8 g n c:Nat} (h:Tk.Sp R P w0 w W b4 b5 b8 g n c) (hP:P<=P'):Tk.Sp R P' w0 w W b4 b5 b8 g n c:=⟨h.dw.mono hP,h.fw,h.res,h.out,h.xs,h.row,h.ne1,h.ne2,h.lo,h.rd⟩
theorem Tk.nd_cells {W:World} {b T:Nat} {d:Ae} (h:W.heap[b]? = some (.cells #[.int .i64 d.kind,.int .i64 d.op,.int .i64 d.type,.int .i64 d.n,.string d.text,.int .i64 d.kids] T)):W.cell? (OK b 0)=some (.int .i64 d.kind)/\W.cell? (OK b 1)=some (.int .i64 d.op)/\W.cell? (OK b 2)=some (.int .i64 d.type)/\W.cell? (OK b 3)=some (.int .i64 d.n)/\W.cell? (OK b 4)=some (.string d.text)/\W.cell? (OK b 5)=some (.int .i64 d.kids)/\∀ i,W.frozen? (OK b i)=false:=by
 refine⟨?_, ?_, ?_, ?_, ?_, ?_,fun i=>by simp[World.frozen?,h]⟩ <;> (rw[Lib.cell_of_heap h];rfl)
theorem Tk.mod_nat {v n:Int} (_hv:0<=v) (hn:0 < n):∃ m:Nat,v % n=(m:Int)/\m < n.toNat:=⟨(v % n).toNat,by have:=Int.emod_nonneg v (by omega:n≠0);omega,by have:=Int.emod_nonneg v (by omega:n≠0);have:=Int.emod_lt_of_pos v hn;omega⟩
theorem Tk.row_end {R P K n c b4:Nat} {w w0 W:World} {a:Option Addr} (hr:As w.heap.size W (.slice a n c) K) (hd:D7 R P w0 W) (hf:Ak R w W) (hs:W.heap[b4]? = some (.cells #[.slice none 0 0] 25)) (hR:R < w.heap.size/\w0.heap.size<=w.heap.size) (hb:w.heap.size<=b4) {P':Nat} (hP:P<=P'):Tk.WPost R P' K w0 w (.returned (.agg #[.slice a n c])) (W.setCell (OK b4 0) (.slice a n c)):=by
 obtain⟨f,g⟩:=Tk.set_frame (i:=0) (v:=.slice a n c) hd hf hb hR;obtain⟨l,h,j,d⟩:=hr;refine⟨a,n,c,rfl,⟨l,h,j,B1 d (fun k hk _ _=>Bd (fun e => ?_))⟩,f.mono hP,g⟩;obtain⟨_,m,b⟩:=A8 d hk;exact Tk.diff hs b OD e.symm
theorem Tk.sp_new {R P b5 b4 g n c:Nat} {w0 w V W:World} (hf1:Ak R w V) (hf:Ak R V W) (hd:D7 R P w0 W) (hr:As w.heap.size W (.slice (some (OK g 0)) n c) 300000000) (ho:W.heap[b5]? = some (.cells #[.slice (some (OK g 0)) n c] 25)) (hs:W.heap[b4]? = some (.cells #[.slice none 0 0] 25)) (d:Ae) (hdt:Fi d) (hne:b4≠b5) (hR:R < w.heap.size/\w0.heap.size<=w.heap.size) (hlo:w.heap.size<=b4/\w.heap.size<=b5):Tk.Sp R P w0 w (W.alloc (.cells #[.int .i64 d.kind,.int .i64 d.op,.int .i64 d.type,.int .i64 d.n,.string d.text,.int .i64 d.kids] 62)) b4 b5 W.heap.size g n c:=by
 have a:=Tk.up1 W (.cells #[.int .i64 d.kind,.int .i64 d.op,.int .i64 d.type,.int .i64 d.n,.string d.text,.int .i64 d.kids] 62);have f:∀ {b:Nat} {x:Obj},W.heap[b]? = some x->b < W.heap.size:=fun h=>(Array.getElem?_eq_some_iff.1 h).1
 have m:g < W.heap.size:=by
  obtain⟨l,j,k,i⟩:=hr;exact(A8 i rfl).1.2
 exact⟨hd.below a,(hf1.trans hf).trans (Ak.of_below a),(a.block b4 (f hs)).trans hs,(a.block b5 (f ho)).trans ho,⟨d,hdt,World.alloc_heap_new W _⟩,Tk.Row_below hr a,hne,by omega,⟨hlo.1,hlo.2,by have:=f ho;omega⟩,hR⟩
theorem Tk.four_row (w:World):As w.heap.size (w.alloc (.cells #[.int .i64 1,.int .i64 0,.int .i64 7,.int .i64 1,.string ⟨#[]⟩,.int .i64 0,.int .i64 2,.int .i64 0,.int .i64 0,.int .i64 0,.string ⟨#[115]⟩,.int .i64 0,.int .i64 3,.int .i64 0,.int .i64 0,.int .i64 0,.string ⟨#[]⟩,.int .i64 0,.int .i64 14,.int .i64 0,.int .i64 0,.int .i64 0,.string ⟨#[]⟩,.int .i64 0] 62)) (.slice (some (OK w.heap.size 0)) 4 4) 4 :=
 ⟨[⟨1,0,7,1,⟨#[]⟩,0⟩,⟨2,0,0,0,⟨#[115]⟩,0⟩,⟨3,0,0,0,⟨#[]⟩,0⟩,⟨14,0,0,0,⟨#[]⟩,0⟩],Nat.le_refl _,fun d hd=>by simp only[List.mem_cons,List.not_mem_nil,or_false]at hd;rcases hd with rfl|rfl|rfl|rfl <;> decide,L2 w w.heap.size ON [⟨1,0,7,1,⟨#[]⟩,0⟩,⟨2,0,0,0,⟨#[115]⟩,0⟩,⟨3,0,0,0,⟨#[]⟩,0⟩,⟨14,0,0,0,⟨#[]⟩,0⟩] OD⟩
noncomputable def Tk.findB : Code->Option (Code × Code)
 | .seq (.block 0 c) b=>some (.block 0 c,b)
 | .seq (.seq _ (.block 0 c)) b=>some (.block 0 c,b)
 | .seq a b=>(Tk.findB a).orElse fun _=>Tk.findB b
 | .cond _ a b=>(Tk.findB a).orElse fun _=>Tk.findB b
 | .block _ c=>Tk.findB c
 | .loop c=>Tk.findB c
 | _=>none
noncomputable def Tk.swBoth : Code × Code:=((Tryz.f28.body).bind Tk.findB).getD (.skip,.skip)
noncomputable def Tk.Case (q:Int):Prop := ∀ {R P b4 b5 b8 g n1 c1 k:Nat} {w0 w w4:World} {K:Act->World->Prop} (_:Hid (Tk.Sp R (P+1+1+1) w0 w w4 b4 b5 b8 g n1 c1)) (_:P<=800000000) (_:n1<=300000000) (_:k < n1) (_:∀ a w',Code.wp prog Tk.swBoth.2 (bodyPost prog Tryz.f28 (Tk.WPost R (P+5) 300000000 w0 w)) a w'->K a w') {v1 v2 v3 v9 v10 v11 v12 v13 v14 v15 v16 v17 v18 v19 v20 v21 v22 v23 v24 v25 v26 v27 v28 v29 v30 v31 v32 v33 v34 v35 v36 v37 v38 v39 v40 v41 v42 v43 v45 v46 v47 v48 v49 v50 v51 v52 v53 v54 v55 v56 v57 v58 v59 v60 v61 v62 v63 v64 v65 v66 v67 v68 v69 v70 v71 v72 v73 v74 v75 v76 v77 v78 v79 v80 v81 v82 v83 v84 v85 v86 v87 v88 v89 v90 v91 v92 v93 v94 v95 v96 v97 v98 v99 v100 v101 v102 v103 v104 v105 v106 v107 v108 v109 v110 v111 v112 v113 v114 v115 v116 v117 v118 v119 v120 v121 v122 v123 v124 v125 v126 v127 v128 v129 v130 v131 v132 v133 v134 v135 v136 v137 v138 v139 v140 v141 v142 v143 v144 v145 v146 v147 v148 v149 v150 v151 v152 v153 v154 v155 v156 v157 v158 v159 v160 v161 v162 v163 v164 v165 v166 v167 v168 v169 v170 v171 v172 v173 v174 v175 v176 v177 v178 v179 v180 v181 v182 v183 v184 v185 v186 v187 v188 v189 v190 v191 v192 v193 v194 v195 v196 v197 v198 v199 v200 v201 v202 v203 v204 v205 v206 v207 v208 v209 v210 v211 v212 v213 v214 v215 v216 v217 v218 v219 v220 v221 v222 v223 v224 v225 v226 v227 v228 v229 v230 v231 v232 v233 v234 v235 v236 v237 v238 v239 v240 v241 v242 v243 v244 v245 v246 v247 v248 v249 v250 v251 v252 v253 v254 v255 v256 v257 v258 v259 v260 v261 v262 v263 v264 v265 v266 v267 v268 v269 v270 v271 v272 v273 v274 v275 v276 v277 v278 v279 v280 v281 v282 v283 v284 v285 v286 v287 v288 v289 v290 v291 v292 v293 v294 v295 v296 v297 v298 v299 v300 v301 v302 v303 v304 v305 v306 v307 v308 v309 v310 v311 v312 v313 v314 v315 v316 v317 v318 v319 v320 v321 v322 v323 v324 v325 v326 v327 v328 v329 v330 v331 v332 v333 v334 v335 v336 v337 v338 v339 v340 v341 v342 v343 v344 v345 v346 v347 v348 v349 v350 v351 v352 v353:Value},Code.wp prog Tk.swBoth.1 (Exit.then K (bodyPost prog Tryz.f28 (Tk.WPost R (P+5) 300000000 w0 w))) ⟨List.toArray (.pointer (some (OK R 0))::v1::v2::v3 :: .pointer (some (OK b4 0)) :: .pointer (some (OK b5 0)) :: .int .i64 (n1:Int) :: .int .i64 (k:Int) :: .pointer (some (OK b8 0))::v9::v10::v11::v12::v13::v14::v15::v16::v17::v18::v19::v20::v21::v22::v23::v24::v25::v26::v27::v28::v29::v30::v31::v32::v33::v34::v35::v36::v37::v38::v39::v40::v41::v42::v43 :: .int .i64 q::v45::v46::v47::v48::v49::v50::v51::v52::v53::v54::v55::v56::v57::v58::v59::v60::v61::v62::v63::v64::v65::v66::v67::v68::v69::v70::v71::v72::v73::v74::v75::v76::v77::v78::v79::v80::v81::v82::v83::v84::v85::v86::v87::v88::v89::v90::v91::v92::v93::v94::v95::v96::v97::v98::v99::v100::v101::v102::v103::v104::v105::v106::v107::v108::v109::v110::v111::v112::v113::v114::v115::v116::v117::v118::v119::v120::v121::v122::v123::v124::v125::v126::v127::v128::v129::v130::v131::v132::v133::v134::v135::v136::v137::v138::v139::v140::v141::v142::v143::v144::v145::v146::v147::v148::v149::v150::v151::v152::v153::v154::v155::v156::v157::v158::v159::v160::v161::v162::v163::v164::v165::v166::v167::v168::v169::v170::v171::v172::v173::v174::v175::v176::v177::v178::v179::v180::v181::v182::v183::v184::v185::v186::v187::v188::v189::v190::v191::v192::v193::v194::v195::v196::v197::v198::v199::v200::v201::v202::v203::v204::v205::v206::v207::v208::v209::v210::v211::v212::v213::v214::v215::v216::v217::v218::v219::v220::v221::v222::v223::v224::v225::v226::v227::v228::v229::v230::v231::v232::v233::v234::v235::v236::v237::v238::v239::v240::v241::v242::v243::v244::v245::v246::v247::v248::v249::v250::v251::v252::v253::v254::v255::v256::v257::v258::v259::v260::v261::v262::v263::v264::v265::v266::v267::v268::v269::v270::v271::v272::v273::v274::v275::v276::v277::v278::v279::v280::v281::v282::v283::v284::v285::v286::v287::v288::v289::v290::v291::v292::v293::v294::v295::v296::v297::v298::v299::v300::v301::v302::v303::v304::v305::v306::v307::v308::v309::v310::v311::v312::v313::v314::v315::v316::v317::v318::v319::v320::v321::v322::v323::v324::v325::v326::v327::v328::v329::v330::v331::v332::v333::v334::v335::v336::v337::v338::v339::v340::v341::v342::v343::v344::v345::v346::v347::v348::v349::v350::v351::v352::v353::[]),[]⟩ w4
theorem Tk.spoil_0 : Tk.Case 0:=by
 intro R P l y q g c d k u w w4 K b hP _hnn t H;intros;have j:¬ ((c:Int)=0):=OC
 have S:((c:Int) == 0)=false:=by simpa using j
 have T:l < w4.heap.size:=(Array.getElem?_eq_some_iff.1 b.out.res).1;conv at H=>enter [a,w'];arg 1;arg 2;whnf
 conv=>arg 2;whnf
 have A:Tk.Mk:=trivial;go_wp2_with (first
    | (go_at_call 26;have _t:=A;clear A;refine(Gg 27 b.out.dw OC OD OD).mono ?_;rintro e B ⟨x,rfl,hx,f,h⟩;have n:Tk.Sp R (P+1+1+1+1) u w B l y q g c d:=b.out.draw f h;have hw:wrap64 (x - 1)=x - 1:=IntWalk.wrap64_in _ OC;obtain⟨C,r⟩:∃ Y,B.setCell (OK q 0) (.int .i64 (x - 1))=Y:=⟨_,rfl⟩;have p:Tk.Sp R (P+1+1+1+1) u w C l y q g c d:=(by rw[<- r];exact n.setX (i:=0) (Tk.Fld.num _));obtain⟨E,F,G,_,z,d9,Q,k0,U,V,W,X,Z⟩:=n.cells;have f5:=z 0;clear z E F G;obtain⟨o5,o6,o7,o8,o9,d5,s,x0,x1,x2,x3,x4,x5⟩:=p.cells;clear o9 o8;obtain⟨Y1,Y2,Y3,Y4,Y5,D,_,_,_,_,_,_,I,J,L,M,N,O,z0,z1,z2,z3,z4,z5,g0,g1,g2,g3,g4,g5,o⟩:=p.six t s;obtain⟨p5,p6,p7,_,_,_⟩:=o.cells;have m:Hid (Tk.WPost R (P+5) 300000000 u w (.returned (.agg #[.slice (some (OK g 0)) c d])) (D.setCell (OK l 0) (.slice (some (OK g 0)) c d))):=(o.mono OC).fin;clear o;clear n p))
 exact bodyPost_ret (v:=.agg #[.slice (some (OK g 0)) c d]) (by simp[results,results28,go_sem,p6]) rfl m.out
theorem DdTkN1x62 {P:Prop} (h:P:=by
 obtain⟨o5,o6,o7,o8,o9,d5,M,x0,x1,x2,x3,x4,x5⟩:=B.cells
 clear o9 o8
 obtain⟨Y1,Y2,Y3,Y4,Y5,U,_,_,_,_,_,_,ac,ad,ae,af,ag,ah,z0,z1,z2,z3,z4,z5,g0,g1,g2,g3,g4,g5,A⟩:=B.six N M
 obtain⟨p5,p6,p7,_,_,_⟩:=A.cells
 have z:Hid (Tk.WPost R (P+5) 300000000 u w (.returned (.agg #[.slice (some (OK g 0)) m p])) (U.setCell (OK q 0) (.slice (some (OK g 0)) m p))):=(A.mono OC).fin
 clear A
 clear B
 go_wp2_with fail
 exact bodyPost_ret (v:=.agg #[.slice (some (OK g 0)) m p]) (by simp[results,results28,go_sem,p6]) rfl z.out
 ):P:=h
theorem DeTkN1x55 {P:Prop} (h:P:=by
 refine f.out _ _ (trivial) fun _=>?_
 clear f
 try simp[Act.put]
 refine Tk 4 (.int .i64 (IntKind.i64.wrap (l.op+x))) ?_
 try simp[Act.put]
 refine wpAnyH_take (i:=5) (v:=.int .i64 (IntKind.i64.wrap (IntKind.i64.wrap (l.op+x) - 2))) rfl OE OE OE (fun _ _ _ h=>h) (Or.inl ⟨by rfl,by intro w hSw;go_simp⟩) OG ?_
 try simp[Act.put]
 refine Tk 6 (.pointer (some (OK n 1))) ?_
 try simp[Act.put]
 refine Tr 7 rfl fun KK f=>?_
 go_simp
 refine f.out _ _ (trivial) fun _=>?_
 clear f
 try simp[Act.put]
 refine wpAnyH_done OE ?_ _
 obtain⟨T,L⟩:∃ Y,y.setCell (OK n 1) (.int .i64 (IntKind.i64.wrap (IntKind.i64.wrap (l.op+x) - 2)))=Y:=⟨_,rfl⟩
 have B:Tk.Sp R (P+1+1+1+1) u w T q C n g m p:=(by rw[<- L];exact Q.out.setX (i:=1) (Tk.Fld.num _))
 exact DdTkN1x62
 ):P:=h
theorem Tk.spoil_1 : Tk.Case 1:=by
 intro R P q C n g m p k u w O K c hP _hnn N f;intros;have s:¬ ((m:Int)=0):=OC
 have aj:((m:Int) == 0)=false:=by simpa using s
 have ak:q < O.heap.size:=(Array.getElem?_eq_some_iff.1 c.out.res).1;conv at f=>enter [a,w'];arg 1;arg 2;whnf
 conv=>arg 2;whnf
 go_upto_region 18 with fail
 obtain⟨l,ai,o⟩:=c.out.xs;have t:Hid (O.drew.heap[n]? = some (.cells #[.int .i64 l.kind,.int .i64 l.op,.int .i64 l.type,.int .i64 l.n,.string l.text,.int .i64 l.kids] 62)):=o;obtain⟨V,W,X,Z,aa,ab,D⟩:=Tk.nd_cells o;clear D;have r:D7 R (P+1+1+1) u O.drew:=c.out.dw.below (OO _).drew;clear o;refine wp_region_held_drew (S:=(fun _=>True)) OE (trivial) fun _=>?_
 refine Tk 0 (.pointer (some (OK n 1))) ?_;refine Tk 2 (.pointer (some (OK R 0))) ?_;(try simp[Act.put]);refine wpAnyH_ready (rs:=[1,3]) OE OF ?_;refine AllReadyH.cons rfl (fun KK f => ?_) (AllReadyH.cons rfl (fun KK f => ?_) AllReadyH.nil)
 ·go_simp;refine f.out _ _ (trivial) fun _=>?_
  clear f;(try simp[Act.put]);refine Tr 3 rfl fun KK f=>?_
  go_simp;go_at_call 26;refine(Gg 5 r OC OD OD).mono ?_;rintro e y ⟨x,rfl,hx,d,b⟩;have Q:Hid (Tk.Sp R (P+1+1+1+1) u w y q C n g m p):=c.out.draw d ((Ak.of_below (OO _).drew).trans b);obtain⟨E,F,G,H,I,J,j⟩:=Tk.nd_cells (b.blk t.out OD);have f5:=j 1;clear d b j;go_wp2;exact DeTkN1x55
 ·go_simp;go_at_call 26;refine(Gg 5 r OC OD OD).mono ?_;rintro e y ⟨x,rfl,hx,d,b⟩;have Q:Hid (Tk.Sp R (P+1+1+1+1) u w y q C n g m p):=c.out.draw d ((Ak.of_below (OO _).drew).trans b);obtain⟨E,F,G,H,I,J,j⟩:=Tk.nd_cells (b.blk t.out OD);have f5:=j 1;clear d b j;go_wp2;refine f.out _ _ (trivial) fun _=>?_
  clear f;(try simp[Act.put]);refine Tr 1 rfl fun KK f=>?_
  go_simp;exact DeTkN1x55
theorem Tk.spoil_2 : Tk.Case 2:=by
 intro R P l y q g c d k u w w4 K b hP _hnn t H;intros;have j:¬ ((c:Int)=0):=OC
 have S:((c:Int) == 0)=false:=by simpa using j
 have T:l < w4.heap.size:=(Array.getElem?_eq_some_iff.1 b.out.res).1;conv at H=>enter [a,w'];arg 1;arg 2;whnf
 conv=>arg 2;whnf
 have A:Tk.Mk:=trivial;go_wp2_with (first
    | (go_at_call 26;have _t:=A;clear A;refine(Gg 13 b.out.dw OC OD OD).mono ?_;rintro e B ⟨x,rfl,hx,f,h⟩;have n:Tk.Sp R (P+1+1+1+1) u w B l y q g c d:=b.out.draw f h;have hw:wrap64 (x - 1)=x - 1:=IntWalk.wrap64_in _ OC;obtain⟨C,r⟩:∃ Y,B.setCell (OK q 2) (.int .i64 (x - 1))=Y:=⟨_,rfl⟩;have p:Tk.Sp R (P+1+1+1+1) u w C l y q g c d:=(by rw[<- r];exact n.setX (i:=2) (Tk.Fld.num _));obtain⟨E,F,G,_,z,d9,Q,k0,U,V,W,X,Z⟩:=n.cells;have f5:=z 2;clear z E F G;obtain⟨o5,o6,o7,o8,o9,d5,s,x0,x1,x2,x3,x4,x5⟩:=p.cells;clear o9 o8;obtain⟨Y1,Y2,Y3,Y4,Y5,D,_,_,_,_,_,_,I,J,L,M,N,O,z0,z1,z2,z3,z4,z5,g0,g1,g2,g3,g4,g5,o⟩:=p.six t s;obtain⟨p5,p6,p7,_,_,_⟩:=o.cells;have m:Hid (Tk.WPost R (P+5) 300000000 u w (.returned (.agg #[.slice (some (OK g 0)) c d])) (D.setCell (OK l 0) (.slice (some (OK g 0)) c d))):=(o.mono OC).fin;clear o;clear n p))
 exact bodyPost_ret (v:=.agg #[.slice (some (OK g 0)) c d]) (by simp[results,results28,go_sem,p6]) rfl m.out
theorem Tk.spoil_3 : Tk.Case 3:=by
 intro R P h u m g d f k n w o K b hP _hnn B N;intros;have l:¬ ((d:Int)=0):=OC
 have X:((d:Int) == 0)=false:=by simpa using l
 have Z:h < o.heap.size:=(Array.getElem?_eq_some_iff.1 b.out.res).1;conv at N=>enter [a,w'];arg 1;arg 2;whnf
 conv=>arg 2;whnf
 have E:Tk.Mk:=trivial;have s:Tk.Sp R (P+1+1+1) n w (o.alloc (.cells #[.int .i64 (-1),.int .i64 0,.int .i64 1,.int .i64 2,.int .i64 255,.int .i64 256,.int .i64 65536,.int .i64 (-128)] 2)) h u m g d f:=b.out.below (Tk.up1 o _);go_wp2_with (first
    | (go_at_call 26;have _t:=E;clear E;refine(Kl 8 s.dw OC OD OD).mono ?_;rintro e F ⟨x,rfl,hx,j,c⟩;have q:Tk.Sp R (P+1+1+1+1) n w F h u m g d f:=s.draw j c;obtain⟨z,hz,C⟩:=Tk.tab_int (c.blk (World.alloc_heap_new o _) OD) OD x (by have M:x < 8:=OC;simpa using M);obtain⟨G,y⟩:∃ Y,F.setCell (OK m 3) (.int .i64 z)=Y:=⟨_,rfl⟩;have t:Tk.Sp R (P+1+1+1+1) n w G h u m g d f:=(by rw[<- y];exact q.setX (i:=3) (Tk.Fld.n C));obtain⟨I,J,L,_,D,d9,W,k0,aa,ab,ac,ad,ae⟩:=q.cells;have f5:=D 3;clear D I J L;obtain⟨o5,o6,o7,o8,o9,d5,A,x0,x1,x2,x3,x4,x5⟩:=t.cells;clear o9 o8;obtain⟨Y1,Y2,Y3,Y4,Y5,H,_,_,_,_,_,_,O,Q,S,T,U,V,z0,z1,z2,z3,z4,z5,g0,g1,g2,g3,g4,g5,r⟩:=t.six B A;obtain⟨p5,p6,p7,_,_,_⟩:=r.cells;have p:Hid (Tk.WPost R (P+5) 300000000 n w (.returned (.agg #[.slice (some (OK g 0)) d f])) (H.setCell (OK h 0) (.slice (some (OK g 0)) d f))):=(r.mono OC).fin;clear r;clear q t s))
 exact bodyPost_ret (v:=.agg #[.slice (some (OK g 0)) d f]) (by simp[results,results28,go_sem,p6]) rfl p.out
theorem Tk.spoil_4 : Tk.Case 4:=by
 intro R P h t m g d f k n w I K b hP _hnn B U;intros;have l:¬ ((d:Int)=0):=OC
 have ad:((d:Int) == 0)=false:=by simpa using l
 have ae:h < I.heap.size:=(Array.getElem?_eq_some_iff.1 b.out.res).1;conv at U=>enter [a,w'];arg 1;arg 2;whnf
 conv=>arg 2;whnf
 have G:Tk.Mk:=trivial;have H:Tk.Mk:=trivial;go_wp2_with (first
    | (go_at_call 58;have _t:=H;clear H;refine(Tk.many31 I).mono ?_;rintro e E ⟨tm,rfl,C,y⟩;have r:Tk.Sp R (P+1+1+1) n w (E.alloc (.cells #[.string ⟨#[]⟩,.string ⟨#[109,97,105,110]⟩,.string ⟨#[118,49]⟩,.string ⟨#[118,50]⟩,.string ⟨#[112,48]⟩,.string ⟨#[102,48]⟩,.string ⟨#[108,101,116]⟩,.string ⟨#[57,120]⟩,.string ⟨#[65]⟩,.string tm] 9)) h t m g d f:=(b.out.below y).below (Tk.up1 E _))
    | (go_at_call 26;have _t:=G;clear G;refine(Kl 10 r.dw OC OD OD).mono ?_;rintro e J ⟨x,rfl,hx,j,c⟩;have p:Tk.Sp R (P+1+1+1+1) n w J h t m g d f:=r.draw j c;obtain⟨z,hz,D⟩:=Tk.tab_str (M:=100) (c.blk (World.alloc_heap_new E _) OD) (Tk.ten_ok C) x (by have T:x < 10:=OC;simpa using T);obtain⟨L,u⟩:∃ Y,J.setCell (OK m 4) (.string z)=Y:=⟨_,rfl⟩;have s:Tk.Sp R (P+1+1+1+1) n w L h t m g d f:=(by rw[<- u];exact p.setX (i:=4) (Tk.Fld.text D));obtain⟨O,Q,S,_,F,d9,ac,k0,af,ag,ah,ai,aj⟩:=p.cells;have f5:=F 4;clear F O Q S;obtain⟨o5,o6,o7,o8,o9,d5,A,x0,x1,x2,x3,x4,x5⟩:=s.cells;clear o9 o8;obtain⟨Y1,Y2,Y3,Y4,Y5,N,_,_,_,_,_,_,V,W,X,Z,aa,ab,z0,z1,z2,z3,z4,z5,g0,g1,g2,g3,g4,g5,q⟩:=s.six B A;obtain⟨p5,p6,p7,_,_,_⟩:=q.cells;have o:Hid (Tk.WPost R (P+5) 300000000 n w (.returned (.agg #[.slice (some (OK g 0)) d f])) (N.setCell (OK h 0) (.slice (some (OK g 0)) d f))):=(q.mono OC).fin;clear q;clear p s r))
 exact bodyPost_ret (v:=.agg #[.slice (some (OK g 0)) d f]) (by simp[results,results28,go_sem,p6]) rfl o.out
theorem DdTkN5x44 {P:Prop} (h:P:=by
 refine f.out _ _ (trivial) fun _=>?_
 clear f
 try simp[Act.put]
 refine Tk 4 (.int .i64 (IntKind.i64.wrap (l.kids+x))) ?_
 try simp[Act.put]
 refine wpAnyH_take (i:=5) (v:=.int .i64 (IntKind.i64.wrap (IntKind.i64.wrap (l.kids+x) - 1))) rfl OE OE OE (fun _ _ _ h=>h) (Or.inl ⟨by rfl,by intro w hSw;go_simp⟩) OG ?_
 try simp[Act.put]
 refine Tk 6 (.pointer (some (OK n 5))) ?_
 try simp[Act.put]
 refine Tr 7 rfl fun KK f=>?_
 go_simp
 refine f.out _ _ (trivial) fun _=>?_
 clear f
 try simp[Act.put]
 refine wpAnyH_done OE ?_ _
 obtain⟨T,L⟩:∃ Y,y.setCell (OK n 5) (.int .i64 (IntKind.i64.wrap (IntKind.i64.wrap (l.kids+x) - 1)))=Y:=⟨_,rfl⟩
 have B:Tk.Sp R (P+1+1+1+1) u w T q C n g m p:=(by rw[<- L];exact Q.out.setX (i:=5) (Tk.Fld.num _))
 obtain⟨o5,o6,o7,o8,o9,d5,M,x0,x1,x2,x3,x4,x5⟩:=B.cells
 clear o9 o8
 obtain⟨Y1,Y2,Y3,Y4,Y5,U,_,_,_,_,_,_,ac,ad,ae,af,ag,ah,z0,z1,z2,z3,z4,z5,g0,g1,g2,g3,g4,g5,A⟩:=B.six N M
 obtain⟨p5,p6,p7,_,_,_⟩:=A.cells
 have z:Hid (Tk.WPost R (P+5) 300000000 u w (.returned (.agg #[.slice (some (OK g 0)) m p])) (U.setCell (OK q 0) (.slice (some (OK g 0)) m p))):=(A.mono OC).fin
 clear A
 clear B
 go_wp2_with fail
 exact bodyPost_ret (v:=.agg #[.slice (some (OK g 0)) m p]) (by simp[results,results28,go_sem,p6]) rfl z.out
 ):P:=h
theorem Tk.spoil_5 : Tk.Case 5:=by
 intro R P q C n g m p k u w O K c hP _hnn N f;intros;have s:¬ ((m:Int)=0):=OC
 have aj:((m:Int) == 0)=false:=by simpa using s
 have ak:q < O.heap.size:=(Array.getElem?_eq_some_iff.1 c.out.res).1;conv at f=>enter [a,w'];arg 1;arg 2;whnf
 conv=>arg 2;whnf
 go_upto_region 26 with fail
 obtain⟨l,ai,o⟩:=c.out.xs;have t:Hid (O.drew.heap[n]? = some (.cells #[.int .i64 l.kind,.int .i64 l.op,.int .i64 l.type,.int .i64 l.n,.string l.text,.int .i64 l.kids] 62)):=o;obtain⟨V,W,X,Z,aa,ab,D⟩:=Tk.nd_cells o;clear D;have r:D7 R (P+1+1+1) u O.drew:=c.out.dw.below (OO _).drew;clear o;refine wp_region_held_drew (S:=(fun _=>True)) OE (trivial) fun _=>?_
 refine Tk 0 (.pointer (some (OK n 5))) ?_;refine Tk 2 (.pointer (some (OK R 0))) ?_;(try simp[Act.put]);refine wpAnyH_ready (rs:=[1,3]) OE OF ?_;refine AllReadyH.cons rfl (fun KK f => ?_) (AllReadyH.cons rfl (fun KK f => ?_) AllReadyH.nil)
 ·go_simp;refine f.out _ _ (trivial) fun _=>?_
  clear f;(try simp[Act.put]);refine Tr 3 rfl fun KK f=>?_
  go_simp;go_at_call 26;refine(Gg 3 r OC OD OD).mono ?_;rintro e y ⟨x,rfl,hx,d,b⟩;have Q:Hid (Tk.Sp R (P+1+1+1+1) u w y q C n g m p):=c.out.draw d ((Ak.of_below (OO _).drew).trans b);obtain⟨E,F,G,H,I,J,j⟩:=Tk.nd_cells (b.blk t.out OD);have f5:=j 5;clear d b j;go_wp2;exact DdTkN5x44
 ·go_simp;go_at_call 26;refine(Gg 3 r OC OD OD).mono ?_;rintro e y ⟨x,rfl,hx,d,b⟩;have Q:Hid (Tk.Sp R (P+1+1+1+1) u w y q C n g m p):=c.out.draw d ((Ak.of_below (OO _).drew).trans b);obtain⟨E,F,G,H,I,J,j⟩:=Tk.nd_cells (b.blk t.out OD);have f5:=j 5;clear d b j;go_wp2;refine f.out _ _ (trivial) fun _=>?_
  clear f;(try simp[Act.put]);refine Tr 1 rfl fun KK f=>?_
  go_simp;exact DdTkN5x44
theorem DeTkN6x68 {P:Prop} (h:P:=by
 try simp[Act.put]
 refine Tr 7 rfl fun KK d=>?_
 go_simp
 refine d.out _ _ (J) fun _=>?_
 clear d
 try simp[Act.put]
 refine Tk 8 (.pointer (some (OK g (m * 6)))) ?_
 try simp[Act.put]
 refine Tk 9 (.pointer (some (OK g (m * 6+4)))) ?_
 try simp[Act.put]
 refine Tr 10 rfl fun KK d=>?_
 go_simp
 refine d.out _ _ (G) fun _=>?_
 clear d
 try simp[Act.put]
 refine wpAnyH_done OE ?_ _
 obtain⟨Y0,X⟩:∃ Y,L.setCell (OK g (m * 6+4)) (.string z)=Y:=⟨_,rfl⟩
 have O:Tk.Sp R (P+1+1+1+1) t w Y0 u r A g c n:=(by rw[<- X];exact q.out.setRow (i:=4) p OD (Tk.Fld.text s))
 obtain⟨p5,p6,p7,_,_,_⟩:=O.cells
 have y:Hid (Tk.WPost R (P+5) 300000000 t w (.returned (.agg #[.slice (some (OK g 0)) c n])) (Y0.setCell (OK u 0) (.slice (some (OK g 0)) c n))):=(O.mono OC).fin
 clear O
 go_wp2_with fail
 exact bodyPost_ret (v:=.agg #[.slice (some (OK g 0)) c n]) (by simp[results,results28,go_sem,p6]) rfl y.out
 ):P:=h
theorem DdTkN6x10 {P:Prop} (h:P:=by
 have D:¬ ((c:Int)=0):=OC
 have am:((c:Int) == 0)=false:=by simpa using D
 have ap:u < w4.heap.size:=(Array.getElem?_eq_some_iff.1 b.out.res).1
 conv at d=>enter [a,w'];arg 1;arg 2;whnf
 conv=>arg 2;whnf
 go_wp2_with fail
 go_loopw [9] (fun ti wr => ∃ j:Int,(0<=j/\j<=(c:Int))/\ti = .int .i64 j/\wr=w4) (fun ti _=>((c:Int) - intOf ti).toNat)
 case atStart=>exact⟨0,by omega,rfl,rfl⟩
 case round =>
  obtain⟨j,hj,rfl,rfl⟩:=hrel
  have an:wrap64 (j+1)=j+1:=IntWalk.wrap64_in _ OC
  by_cases hlt:j < (c:Int)
  ·have ao:wrap64 ((k:Int)+j)=(k:Int)+j:=IntWalk.wrap64_in _ OC
   obtain⟨m,al,p⟩:∃ m:Nat,((k:Int)+j) % (c:Int)=(m:Int)/\m < c:=by obtain⟨m,h1,h2⟩:=Tk.mod_nat (show 0<=(k:Int)+j by omega) (show (0:Int) < (c:Int) by omega);exact⟨m,h1,by simpa using h2⟩
   obtain⟨o5,o6,o7,_,o9,d5,B,x0,x1,x2,x3,x4,x5⟩:=b.out.cells
   clear o9 x0 x1 x2 x3 x4 x5
   obtain⟨d6,ak,⟨z0,z1,z2,z3,z4,z5⟩,o⟩:=Tk.Row_cells b.out.row p
   clear o
   go_wp2_with fail
   all_goals first|exact⟨⟨j+1,by omega,rfl,trivial⟩,by simp only[intOf];omega⟩|skip
   all_goals
    have V:D7 R (P+1+1+1) t wr.drew:=b.out.dw.below (OO _).drew
    obtain⟨ad,_,_,_,_,_⟩:=(b.out.below (Tk.up1 wr (.cells #[.string ⟨#[118,49]⟩,.string ⟨#[118,50]⟩,.string ⟨#[118,51]⟩,.string ⟨#[112,48]⟩,.string ⟨#[110,111,110,101]⟩] 9))).cells
    have T:D7 R (P+1+1+1) t (wr.alloc (.cells #[.string ⟨#[118,49]⟩,.string ⟨#[118,50]⟩,.string ⟨#[118,51]⟩,.string ⟨#[112,48]⟩,.string ⟨#[110,111,110,101]⟩] 9)).drew:=b.out.dw.below (Tk.up1 wr _).drew
    have ab:wr.drew.cell? (OK r 0)=some (.slice (some (OK g 0)) c n):=o5
    have F:(wr.alloc (.cells #[.string ⟨#[118,49]⟩,.string ⟨#[118,50]⟩,.string ⟨#[118,51]⟩,.string ⟨#[112,48]⟩,.string ⟨#[110,111,110,101]⟩] 9)).drew.cell? (OK r 0)=some (.slice (some (OK g 0)) c n):=ad
    refine wp_region_held_drew (S:=(fun W=>W.cell? (OK r 0)=some (.slice (some (OK g 0)) c n))) OE (ab) fun _=>?_
    refine Tk 0 (.pointer (some (OK r 0))) ?_
    try simp[Act.put]
    refine Tk 1 (.slice (some (OK g 0)) c n) ?_
    try simp[Act.put]
    refine Tk 2 (.int .i64 (m:Int)) ?_
    try simp[Act.put]
    refine Tk 4 (.pointer (some (OK R 0))) ?_
    try simp[Act.put]
    refine wpAnyH_ready (rs:=[3,5]) OE OF ?_
    refine AllReadyH.cons rfl (fun KK d => ?_) (AllReadyH.cons rfl (fun KK d => ?_) AllReadyH.nil)
    ·go_simp
     refine d.out _ _ (F) fun _=>?_
     clear d
     try simp[Act.put]
     refine Tr 5 rfl fun KK d=>?_
     go_simp
     go_at_call 26
     refine(Kl 5 T OC OD OD).mono ?_
     rintro e L ⟨x,rfl,hx,l,f⟩
     have I:Hid (Tk.Sp R (P+1+1+1+1) t w L u r A g c n):=b.out.draw l ((Ak.of_below (Tk.up1 wr _).drew).trans f)
     have q:=I
     obtain⟨z,hz,s⟩:=Tk.tab_str (M:=100) (f.blk (U:=(wr.alloc (.cells #[.string ⟨#[118,49]⟩,.string ⟨#[118,50]⟩,.string ⟨#[118,51]⟩,.string ⟨#[112,48]⟩,.string ⟨#[110,111,110,101]⟩] 9)).drew) (World.alloc_heap_new wr (.cells #[.string ⟨#[118,49]⟩,.string ⟨#[118,50]⟩,.string ⟨#[118,51]⟩,.string ⟨#[112,48]⟩,.string ⟨#[110,111,110,101]⟩] 9)) OD) OD x (by have Q:x < 5:=OC;simpa using Q)
     obtain⟨d8,Z,⟨_,_,_,_,y0,_⟩,o⟩:=Tk.Row_cells q.out.row p
     have f5:=o (m * 6+4)
     obtain⟨J,_,_,_,_,_⟩:=q.out.cells
     obtain⟨G,_,_,_,_,_⟩:=(q.out.setRow (i:=4) (v:=.string z) p OD (Tk.Fld.text s)).cells
     clear o
     clear l f
     go_wp2
     refine d.out _ _ (J) fun _=>?_
     clear d
     try simp[Act.put]
     refine Tk 6 (.pointer (some (OK wr.heap.size x))) ?_
     exact DeTkN6x68
    ·go_simp
     go_at_call 26
     refine(Kl 5 V OC OD OD).mono ?_
     rintro e H ⟨x,rfl,hx,l,f⟩
     have I:Hid (Tk.Sp R (P+1+1+1+1) t w H u r A g c n):=b.out.draw l ((Ak.of_below (OO _).drew).trans f)
     obtain⟨z,hz,s⟩:=Tk.tab_str (M:=100) (World.alloc_heap_new H (.cells #[.string ⟨#[118,49]⟩,.string ⟨#[118,50]⟩,.string ⟨#[118,51]⟩,.string ⟨#[112,48]⟩,.string ⟨#[110,111,110,101]⟩] 9)) OD x (by have Q:x < 5:=OC;simpa using Q)
     obtain⟨L,E⟩:∃ W,H.alloc (.cells #[.string ⟨#[118,49]⟩,.string ⟨#[118,50]⟩,.string ⟨#[118,51]⟩,.string ⟨#[112,48]⟩,.string ⟨#[110,111,110,101]⟩] 9)=W:=⟨_,rfl⟩
     have q:Hid (Tk.Sp R (P+1+1+1+1) t w L u r A g c n):=(by rw[<- E];exact I.out.below (Tk.up1 H _))
     rw[E]at hz
     obtain⟨ac,_,_,_,_,_⟩:=I.out.cells
     obtain⟨d8,Z,⟨_,_,_,_,y0,_⟩,o⟩:=Tk.Row_cells q.out.row p
     have f5:=o (m * 6+4)
     obtain⟨J,_,_,_,_,_⟩:=q.out.cells
     obtain⟨G,_,_,_,_,_⟩:=(q.out.setRow (i:=4) (v:=.string z) p OD (Tk.Fld.text s)).cells
     clear o
     clear l f
     go_wp2
     refine d.out _ _ (ac) fun _=>?_
     clear d
     try simp[Act.put]
     refine Tr 3 rfl fun KK d=>?_
     go_simp
     refine d.out _ _ (J) fun _=>?_
     clear d
     try simp[Act.put]
     refine Tk 6 (.pointer (some (OK H.heap.size x))) ?_
     exact DeTkN6x68
  ·obtain⟨o5,o6,o7,o8,o9,d5,B,x0,x1,x2,x3,x4,x5⟩:=b.out.cells
   clear o9 o8
   obtain⟨Y1,Y2,Y3,Y4,Y5,Y6,_,_,_,_,_,_,ae,af,ag,ah,ai,aj,z0,z1,z2,z3,z4,z5,g0,g1,g2,g3,g4,g5,q⟩:=b.out.six C B
   obtain⟨p5,p6,p7,_,_,_⟩:=q.cells
   have N:Hid (Tk.WPost R (P+5) 300000000 t w (.returned (.agg #[.slice (some (OK g 0)) c n])) (Y6.setCell (OK u 0) (.slice (some (OK g 0)) c n))):=(q.mono OC).fin
   clear q
   go_wp2_with fail
   exact bodyPost_ret (v:=.agg #[.slice (some (OK g 0)) c n]) (by simp[results,results28,go_sem,p6]) rfl N.out
 ):P:=h
theorem Tk.spoil_6 : Tk.Case 6:=by
 intro R P u r A g c n k t w w4 K b hP aa C d;intros;exact DdTkN6x10
end Go.Proofs.YtjlaedokfbcbpaaGreatDoor
