import Derived.Test.YtlcckaffhnjneaaGreatDoorKTreeG
import Derived.Test.YtlcckaffhnjneaaGreatDoorKScanG
import Derived.Deep.QuietTactic
import Derived.BigQuiet
import Derived.Deep.RegionHeld3
set_option maxHeartbeats 1000000
namespace Go.Proofs.YtlcckaffhnjneaaGreatDoor
open Go.RowKit
def Pa.kd (ts:List (Mill.Piece × Nat)) (i:Nat):Int:=match ts[i]? with | some p=>p.1.kind | none=>0
def Pa.tx (ts:List (Mill.Piece × Nat)) (i:Nat):List UInt8:=match ts[i]? with | some p=>p.1.text | none=>[]
def Pa.ty (ts:List (Mill.Piece × Nat)) (i:Nat):Int:=match ts[i]? with | some p=>p.1.type | none=>0
def Pa.nm (ts:List (Mill.Piece × Nat)) (i:Nat):Int:=match ts[i]? with | some p=>p.1.n | none=>0
def Pa.words : List (List UInt8):=[[98,111,111,108],[116,101,120,116],[117,56],[117,49,54],[117,51,50],[117,54,52],[105,56],[105,49,54],[105,51,50],[105,54,52]]
def Pa.builts : List (List UInt8):=[[114,101,97,100],[104,97,115],[108,105,115,116],[116,111,111,108],[97,114,103],[108,101,110],[97,116],[99,117,116],[102,105,110,100],[99,104,114],[100,101,99],[110,117,109]]
def Pa.marks2 : List (List UInt8):=[[124,124],[38,38],[61,61],[33,61],[60],[60,61],[62],[62,61],[43],[45],[124],[94],[42],[47],[37],[38],[60,60],[62,62]]
def Pa.marks1 : List (List UInt8):=[[45],[33],[126]]
def Pa.ix (l:List (List UInt8)) (x:List UInt8):Nat:=if x ∈ l then l.idxOf x+1 else 0
def Pa.rk (op:Nat):Nat:=if op=0 then 0 else if op=1 then 1 else if op=2 then 2 else if op≤8 then 3 else if op≤12 then 4 else 5
structure Pa.S where
 p:Nat
 bad:Bool
def Pa.is (ts:List (Mill.Piece × Nat)) (T:List UInt8) (s:Pa.S):Bool := !s.bad && (Pa.kd ts s.p == 5 || Pa.kd ts s.p == 2) && Pa.tx ts s.p == T
def Pa.nx (s:Pa.S):Pa.S:=⟨s.p+1,s.bad⟩
def Pa.need (ts:List (Mill.Piece × Nat)) (T:List UInt8) (s:Pa.S):Pa.S:=if Pa.is ts T s then Pa.nx s else ⟨s.p,true⟩
def Pa.opt (ts:List (Mill.Piece × Nat)) (T:List UInt8) (s:Pa.S):Pa.S:=if Pa.is ts T s then Pa.nx s else s
def Pa.kind (ts:List (Mill.Piece × Nat)) (s:Pa.S):Int:=if s.bad then 0 else Pa.kd ts s.p
def Pa.nameT (ts:List (Mill.Piece × Nat)) (s:Pa.S):List UInt8:=if Pa.kind ts s=1 then Pa.tx ts s.p else []
def Pa.name (ts:List (Mill.Piece × Nat)) (s:Pa.S):Pa.S:=if Pa.kind ts s=1 then Pa.nx s else ⟨s.p,true⟩
def Pa.typT (ts:List (Mill.Piece × Nat)) (s:Pa.S):Nat:=if Pa.kind ts s=2 then Pa.ix Pa.words (Pa.tx ts s.p) else 0
def Pa.typ (ts:List (Mill.Piece × Nat)) (s:Pa.S):Pa.S:=if Pa.typT ts s=0 then ⟨s.p,true⟩ else Pa.nx s
def Pa.un (ts:List (Mill.Piece × Nat)) (s:Pa.S):Nat:=if Pa.is ts [45] s then 1 else if Pa.is ts [33] s then 2 else if Pa.is ts [126] s then 3 else 0
def Pa.mkL (ts:List (Mill.Piece × Nat)) (r:Nat) (s:Pa.S):List (List UInt8)→Nat→Nat
 | [],_=>0
 | m::l,op=>if Pa.rk op == r && Pa.is ts m s then op else Pa.mkL ts r s l (op+1)
def Pa.mk (ts:List (Mill.Piece × Nat)) (r:Nat) (s:Pa.S):Nat:=Pa.mkL ts r s Pa.marks2 1
abbrev Pa.Nds := List Mill.Nd
mutual
def Pa.single (ts:List (Mill.Piece × Nat)):Nat→Pa.S→Option (Pa.Nds × Pa.S)
 | 0,_=>none
 | n+1,s =>
  if Pa.kind ts s=3 then some ([⟨1,0,Pa.ty ts s.p,Pa.nm ts s.p,⟨#[]⟩,0⟩],Pa.nx s)
  else if Pa.kind ts s=4 then some ([⟨2,0,0,0,Mill.ba (Pa.tx ts s.p),0⟩],Pa.nx s)
  else if Pa.kind ts s=1 then
   if Pa.is ts [40] (Pa.nx s) then (Pa.exprs ts n (Pa.nx (Pa.nx s))).map fun r=>(r.1++[⟨7,0,0,0,Mill.ba (Pa.tx ts s.p),(r.2.1:Int)⟩],r.2.2)
   else some ([⟨4,0,0,0,Mill.ba (Pa.tx ts s.p),0⟩],Pa.nx s)
  else if Pa.kind ts s=2 then Pa.word ts n s
  else if Pa.un ts s≠0 then (Pa.single ts n (Pa.nx s)).map fun r=>(r.1++[⟨5,(Pa.un ts s:Int),0,0,⟨#[]⟩,1⟩],r.2)
  else if (Pa.need ts [40] s).bad then some ([],Pa.need ts [40] s)
  else (Pa.expr ts n 1 (Pa.need ts [40] s)).map fun r=>(r.1,Pa.need ts [41] r.2)
def Pa.word (ts:List (Mill.Piece × Nat)):Nat→Pa.S→Option (Pa.Nds × Pa.S)
 | 0,_=>none
 | n+1,s =>
  if Pa.tx ts s.p=[116,114,117,101] then some ([⟨3,0,0,1,⟨#[]⟩,0⟩],Pa.nx s)
  else if Pa.tx ts s.p=[102,97,108,115,101] then some ([⟨3,0,0,0,⟨#[]⟩,0⟩],Pa.nx s)
  else if 3≤Pa.ix Pa.words (Pa.tx ts s.p) then (Pa.built ts n 1 (Pa.nx s)).map fun r=>(r.1++[⟨9,0,(Pa.ix Pa.words (Pa.tx ts s.p):Int),0,⟨#[]⟩,1⟩],r.2)
  else if Pa.ix Pa.builts (Pa.tx ts s.p)≠0 then (Pa.built ts n (Mill.builtKids (Pa.ix Pa.builts (Pa.tx ts s.p))).toNat (Pa.nx s)).map fun r=>(r.1++[⟨8,(Pa.ix Pa.builts (Pa.tx ts s.p):Int),0,0,⟨#[]⟩,Mill.builtKids (Pa.ix Pa.builts (Pa.tx ts s.p))⟩],r.2)
  else some ([],⟨s.p,true⟩)
def Pa.built (ts:List (Mill.Piece × Nat)):Nat→Nat→Pa.S→Option (Pa.Nds × Pa.S)
 | 0,_,_=>none
 | n+1,k,s=>(Pa.builtL ts n k 0 [] (Pa.need ts [40] s)).map fun r=>(r.1,Pa.need ts [41] r.2)
def Pa.builtL (ts:List (Mill.Piece × Nat)):Nat→Nat→Nat→Pa.Nds→Pa.S→Option (Pa.Nds × Pa.S)
 | 0,_,_,_,_=>none
 | n+1,k,j,out,s =>
  if j < k∧s.bad=false then
   match Pa.expr ts n 1 (if 0 < j then Pa.need ts [44] s else s) with
   | none=>none
   | some r=>Pa.builtL ts n k (j+1) (out++r.1) r.2
  else some (out,s)
def Pa.exprs (ts:List (Mill.Piece × Nat)):Nat→Pa.S→Option (Pa.Nds × Nat × Pa.S)
 | 0,_=>none
 | n+1,s=>if Pa.is ts [41] s then some ([],0,Pa.nx s) else (Pa.exprsL ts n 0 [] s).map fun r=>(r.1,r.2.1,Pa.need ts [41] r.2.2)
def Pa.exprsL (ts:List (Mill.Piece × Nat)):Nat→Nat→Pa.Nds→Pa.S→Option (Pa.Nds × Nat × Pa.S)
 | 0,_,_,_=>none
 | n+1,k,out,s =>
  if s.bad then some (out,k,s) else
  match Pa.expr ts n 1 s with
  | none=>none
  | some r=>if Pa.is ts [44] r.2 then Pa.exprsL ts n (k+1) (out++r.1) (Pa.nx r.2) else some (out++r.1,k+1,r.2)
def Pa.expr (ts:List (Mill.Piece × Nat)):Nat→Nat→Pa.S→Option (Pa.Nds × Pa.S)
 | 0,_,_=>none
 | n+1,r,s =>
  if s.bad then some ([],s) else if 5 < r then Pa.single ts n s else
  match Pa.expr ts n (r+1) s with
  | none=>none
  | some x=>Pa.exprL ts n r x.1 x.2
def Pa.exprL (ts:List (Mill.Piece × Nat)):Nat→Nat→Pa.Nds→Pa.S→Option (Pa.Nds × Pa.S)
 | 0,_,_,_=>none
 | n+1,r,out,s =>
  if s.bad then some (out,s) else if Pa.mk ts r s=0 then some (out,s) else
  match Pa.expr ts n (r+1) (Pa.nx s) with
  | none=>none
  | some x=>if r=3 then some (out++x.1++[⟨6,(Pa.mk ts r s:Int),0,0,⟨#[]⟩,2⟩],x.2) else Pa.exprL ts n r (out++x.1++[⟨6,(Pa.mk ts r s:Int),0,0,⟨#[]⟩,2⟩]) x.2
end
mutual
def Pa.block (ts:List (Mill.Piece × Nat)):Nat→Pa.S→Option (Pa.Nds × Pa.S)
 | 0,_=>none
 | n+1,s=>Pa.blockL ts n 0 [] (Pa.need ts [123] s)
def Pa.blockL (ts:List (Mill.Piece × Nat)):Nat→Nat→Pa.Nds→Pa.S→Option (Pa.Nds × Pa.S)
 | 0,_,_,_=>none
 | n+1,k,out,s =>
  if s.bad then some (out++[⟨21,0,0,0,⟨#[]⟩,(k:Int)⟩],s)
  else if Pa.is ts [125] s then some (out++[⟨21,0,0,0,⟨#[]⟩,(k:Int)⟩],Pa.nx s)
  else match Pa.stmt ts n s with
  | none=>none
  | some r=>Pa.blockL ts n (k+1) (out++r.1) r.2
def Pa.cond (ts:List (Mill.Piece × Nat)):Nat→Pa.S→Option (Pa.Nds × Pa.S)
 | 0,_=>none
 | n+1,s =>
  match Pa.expr ts n 1 s with
  | none=>none
  | some a=>match Pa.block ts n a.2 with
   | none=>none
   | some b =>
    if Pa.is ts [101,108,115,101] b.2 then
     if Pa.is ts [105,102] (Pa.nx b.2) then (Pa.cond ts n (Pa.nx (Pa.nx b.2))).map fun c=>(a.1++b.1++c.1++[⟨12,0,0,0,⟨#[]⟩,3⟩],c.2)
     else (Pa.block ts n (Pa.nx b.2)).map fun c=>(a.1++b.1++c.1++[⟨12,0,0,0,⟨#[]⟩,3⟩],c.2)
    else some (a.1++b.1++[⟨12,0,0,0,⟨#[]⟩,2⟩],b.2)
def Pa.stmt (ts:List (Mill.Piece × Nat)):Nat→Pa.S→Option (Pa.Nds × Pa.S)
 | 0,_=>none
 | n+1,s =>
  if Pa.kind ts s=1 then
   if Pa.is ts [61] (Pa.nx s) then (Pa.expr ts n 1 (Pa.nx (Pa.nx s))).map fun r=>(r.1++[⟨11,0,0,0,Mill.ba (Pa.tx ts s.p),1⟩],Pa.need ts [59] r.2)
   else if (Pa.need ts [40] (Pa.nx s)).bad then some ([],Pa.need ts [40] (Pa.nx s))
   else (Pa.exprs ts n (Pa.need ts [40] (Pa.nx s))).map fun r=>(r.1++[⟨7,0,0,0,Mill.ba (Pa.tx ts s.p),(r.2.1:Int)⟩]++[⟨20,0,0,0,⟨#[]⟩,1⟩],Pa.need ts [59] r.2.2)
  else if Pa.is ts [105,102] s then Pa.cond ts n (Pa.nx s)
  else if Pa.is ts [119,104,105,108,101] s then
   match Pa.expr ts n 1 (Pa.nx s) with
   | none=>none
   | some a=>(Pa.block ts n a.2).map fun b=>(a.1++b.1++[⟨13,0,0,0,⟨#[]⟩,2⟩],b.2)
  else if Pa.is ts [108,101,116] s then (Pa.expr ts n 1 (Pa.need ts [61] (Pa.name ts (Pa.nx s)))).map fun r=>(r.1++[⟨10,0,0,0,Mill.ba (Pa.nameT ts (Pa.nx s)),1⟩],Pa.need ts [59] r.2)
  else if Pa.is ts [98,114,101,97,107] s then some ([⟨14,0,0,0,⟨#[]⟩,0⟩],Pa.need ts [59] (Pa.nx s))
  else if Pa.is ts [99,111,110,116,105,110,117,101] s then some ([⟨15,0,0,0,⟨#[]⟩,0⟩],Pa.need ts [59] (Pa.nx s))
  else if Pa.is ts [114,101,116,117,114,110] s then
   if Pa.is ts [59] (Pa.nx s) then some ([⟨16,0,0,0,⟨#[]⟩,0⟩],Pa.need ts [59] (Pa.nx s))
   else (Pa.expr ts n 1 (Pa.nx s)).map fun r=>(r.1++[⟨16,0,0,0,⟨#[]⟩,1⟩],Pa.need ts [59] r.2)
  else if Pa.is ts [102,97,105,108] s then (Pa.expr ts n 1 (Pa.nx s)).map fun r=>(r.1++[⟨17,0,0,0,⟨#[]⟩,1⟩],Pa.need ts [59] r.2)
  else if Pa.is ts [115,97,121] s then (Pa.expr ts n 1 (Pa.nx s)).map fun r=>(r.1++[⟨19,0,0,0,⟨#[]⟩,1⟩],Pa.need ts [59] r.2)
  else if Pa.is ts [119,114,105,116,101] s then
   match Pa.expr ts n 1 (Pa.nx s) with
   | none=>none
   | some a=>(Pa.expr ts n 1 (Pa.need ts [44] a.2)).map fun b=>(a.1++b.1++[⟨18,0,0,0,⟨#[]⟩,2⟩],Pa.need ts [59] b.2)
  else some ([⟨0,0,0,0,⟨#[]⟩,1⟩],⟨s.p,true⟩)
end
def Pa.parsL (ts:List (Mill.Piece × Nat)):Nat→Pa.Nds→Pa.S→Option (Pa.Nds × Pa.S)
 | 0,_,_=>none
 | n+1,out,s =>
  if s.bad then some (out,s)
  else if Pa.is ts [44] (Pa.typ ts (Pa.name ts s)) then Pa.parsL ts n (out++[⟨22,0,(Pa.typT ts (Pa.name ts s):Int),0,Mill.ba (Pa.nameT ts s),0⟩]) (Pa.nx (Pa.typ ts (Pa.name ts s)))
  else some (out++[⟨22,0,(Pa.typT ts (Pa.name ts s):Int),0,Mill.ba (Pa.nameT ts s),0⟩],Pa.typ ts (Pa.name ts s))
def Pa.fnO (ts:List (Mill.Piece × Nat)) (s:Pa.S):Pa.S:=Pa.need ts [40] (Pa.name ts (Pa.need ts [102,110] s))
def Pa.fn (ts:List (Mill.Piece × Nat)):Nat→Pa.S→Option (Pa.Nds × Pa.S)
 | 0,_=>none
 | n+1,s =>
  match (if (Pa.fnO ts s).bad then some ([],Pa.fnO ts s) else if Pa.is ts [41] (Pa.fnO ts s) then some ([],Pa.nx (Pa.fnO ts s)) else (Pa.parsL ts n [] (Pa.fnO ts s)).map fun r=>(r.1,Pa.need ts [41] r.2)) with
  | none=>none
  | some a=>(Pa.block ts n (if Pa.is ts [45,62] a.2 then Pa.typ ts (Pa.nx a.2) else a.2)).map fun b=>(a.1++b.1++[⟨23,0,if Pa.is ts [45,62] a.2 then (Pa.typT ts (Pa.nx a.2):Int) else 0,0,Mill.ba (Pa.nameT ts (Pa.need ts [102,110] s)),(a.1.length:Int)+1⟩],b.2)
def Pa.progL (ts:List (Mill.Piece × Nat)):Nat→Nat→Pa.Nds→Pa.S→Option (Pa.Nds × Nat × Pa.S)
 | 0,_,_,_=>none
 | n+1,k,out,s =>
  if s.bad=false∧s.p < ts.length then
   match Pa.fn ts n s with
   | none=>none
   | some r=>Pa.progL ts n (k+1) (out++r.1) r.2
  else some (out,k,s)
abbrev Pa.R (α:Type):=Option (Except Nat (α × Nat))
def Pa.bd {α β:Type} (m:Pa.R α) (f:α→Nat→Pa.R β):Pa.R β:=match m with
 | none=>none
 | some (.error k)=>some (.error k)
 | some (.ok a)=>f a.1 a.2
def Pa.st (ts:List (Mill.Piece × Nat)) (k:Int) (T:List UInt8) (i:Nat):Bool:=Pa.kd ts i == k && Pa.tx ts i == T
def Pa.nd (ts:List (Mill.Piece × Nat)) (k:Int) (T:List UInt8) (i:Nat):Pa.R Unit:=if Pa.st ts k T i then some (.ok ((),i+1)) else some (.error i)
def Pa.iname (ts:List (Mill.Piece × Nat)) (i:Nat):Pa.R (List UInt8):=if Pa.kd ts i=1 then some (.ok (Pa.tx ts i,i+1)) else some (.error i)
def Pa.wty (ts:List (Mill.Piece × Nat)) (i:Nat):Nat:=if Pa.kd ts i=2 then Pa.ix Pa.words (Pa.tx ts i) else 0
def Pa.itype (ts:List (Mill.Piece × Nat)) (i:Nat):Pa.R Nat:=if Pa.wty ts i=0 then some (.error i) else some (.ok (Pa.wty ts i,i+1))
def Pa.iun (ts:List (Mill.Piece × Nat)) (i:Nat):Nat:=if Pa.kd ts i=5 then Pa.ix Pa.marks1 (Pa.tx ts i) else 0
def Pa.mop (ts:List (Mill.Piece × Nat)) (i:Nat):Nat:=if Pa.kd ts i=5 then Pa.ix Pa.marks2 (Pa.tx ts i) else 0
def Pa.bop (ts:List (Mill.Piece × Nat)) (i:Nat):Nat:=if Pa.kd ts i=2 then Pa.ix Pa.builts (Pa.tx ts i) else 0
def Pa.lf (k o t y:Int) (x:List UInt8):Mill.Tr:=.node ⟨k,o,t,y,Mill.ba x,0⟩ []
def Pa.br (k o t:Int) (x:List UInt8) (us:List Mill.Tr):Mill.Tr:=.node ⟨k,o,t,0,Mill.ba x,(us.length:Int)⟩ us
mutual
def Pa.unm (ts:List (Mill.Piece × Nat)):Nat→Nat→Pa.R Mill.Tr
 | 0,_=>none
 | n+1,i =>
  if Pa.iun ts i≠0 then Pa.bd (Pa.unm ts n (i+1)) fun t j=>some (.ok (Pa.br 5 (Pa.iun ts i) 0 [] [t],j))
  else if Pa.kd ts i=3 then some (.ok (Pa.lf 1 0 (Pa.ty ts i) (Pa.nm ts i) [],i+1))
  else if Pa.kd ts i=4 then some (.ok (Pa.lf 2 0 0 0 (Pa.tx ts i),i+1))
  else if Pa.kd ts i=1 then
   if Pa.st ts 5 [40] (i+1) then Pa.bd (Pa.call ts n (i+1)) fun us j=>some (.ok (Pa.br 7 0 0 (Pa.tx ts i) us,j))
   else some (.ok (Pa.lf 4 0 0 0 (Pa.tx ts i),i+1))
  else if Pa.kd ts i=2 then Pa.iword ts n i
  else Pa.brk ts n i
def Pa.iword (ts:List (Mill.Piece × Nat)):Nat→Nat→Pa.R Mill.Tr
 | 0,_=>none
 | n+1,i =>
  if Pa.st ts 2 [116,114,117,101] i then some (.ok (Pa.lf 3 0 0 1 [],i+1))
  else if Pa.st ts 2 [102,97,108,115,101] i then some (.ok (Pa.lf 3 0 0 0 [],i+1))
  else if Pa.bop ts i≠0 then Pa.bd (Pa.brest ts n (Mill.builtKids (Pa.bop ts i)).toNat (i+1)) fun us j=>some (.ok (Pa.br 8 (Pa.bop ts i) 0 [] us,j))
  else if Pa.wty ts i < 3 then some (.error i)
  else Pa.bd (Pa.brk ts n (i+1)) fun t j=>some (.ok (Pa.br 9 0 (Pa.wty ts i) [] [t],j))
def Pa.brk (ts:List (Mill.Piece × Nat)):Nat→Nat→Pa.R Mill.Tr
 | 0,_=>none
 | n+1,i=>Pa.bd (Pa.nd ts 5 [40] i) fun _ j=>Pa.bd (Pa.rank ts n 1 j) fun t k=>Pa.bd (Pa.nd ts 5 [41] k) fun _ l=>some (.ok (t,l))
def Pa.brest (ts:List (Mill.Piece × Nat)):Nat→Nat→Nat→Pa.R (List Mill.Tr)
 | 0,_,_=>none
 | n+1,k,i=>Pa.bd (Pa.nd ts 5 [40] i) fun _ j=>Pa.bd (Pa.brestL ts n k 0 [] j) fun us l=>Pa.bd (Pa.nd ts 5 [41] l) fun _ m=>some (.ok (us,m))
def Pa.brestL (ts:List (Mill.Piece × Nat)):Nat→Nat→Nat→List Mill.Tr→Nat→Pa.R (List Mill.Tr)
 | 0,_,_,_,_=>none
 | n+1,k,j,us,i=>if j < k then Pa.bd (if 0 < j then Pa.nd ts 5 [44] i else some (.ok ((),i))) fun _ l=>Pa.bd (Pa.rank ts n 1 l) fun t m=>Pa.brestL ts n k (j+1) (us++[t]) m else some (.ok (us,i))
def Pa.call (ts:List (Mill.Piece × Nat)):Nat→Nat→Pa.R (List Mill.Tr)
 | 0,_=>none
 | n+1,i=>Pa.bd (Pa.nd ts 5 [40] i) fun _ j=>if Pa.st ts 5 [41] j then some (.ok ([],j+1)) else Pa.args ts n [] j
def Pa.args (ts:List (Mill.Piece × Nat)):Nat→List Mill.Tr→Nat→Pa.R (List Mill.Tr)
 | 0,_,_=>none
 | n+1,us,i=>Pa.bd (Pa.rank ts n 1 i) fun t j=>if Pa.st ts 5 [41] j then some (.ok (us++[t],j+1)) else Pa.bd (Pa.nd ts 5 [44] j) fun _ k=>Pa.args ts n (us++[t]) k
def Pa.rank (ts:List (Mill.Piece × Nat)):Nat→Nat→Nat→Pa.R Mill.Tr
 | 0,_,_=>none
 | n+1,l,i=>Pa.bd (Pa.unm ts n i) fun t j=>Pa.rankL ts n l 5 t j
def Pa.rankL (ts:List (Mill.Piece × Nat)):Nat→Nat→Nat→Mill.Tr→Nat→Pa.R Mill.Tr
 | 0,_,_,_,_=>none
 | n+1,l,m,t,i =>
  if Pa.rk (Pa.mop ts i) < l∨m < Pa.rk (Pa.mop ts i) then some (.ok (t,i))
  else Pa.bd (Pa.rank ts n (Pa.rk (Pa.mop ts i)+1) (i+1)) fun u j=>Pa.rankL ts n l (if Pa.rk (Pa.mop ts i)=3 then 2 else Pa.rk (Pa.mop ts i)) (Pa.br 6 (Pa.mop ts i) 0 [] [t,u]) j
end
mutual
def Pa.iblock (ts:List (Mill.Piece × Nat)):Nat→Nat→Pa.R (List Mill.Tr)
 | 0,_=>none
 | n+1,i=>Pa.bd (Pa.nd ts 5 [123] i) fun _ j=>Pa.iblockL ts n [] j
def Pa.iblockL (ts:List (Mill.Piece × Nat)):Nat→List Mill.Tr→Nat→Pa.R (List Mill.Tr)
 | 0,_,_=>none
 | n+1,us,i=>if Pa.st ts 5 [125] i then some (.ok (us,i+1)) else Pa.bd (Pa.istmt ts n i) fun t j=>Pa.iblockL ts n (us++[t]) j
def Pa.ifr (ts:List (Mill.Piece × Nat)):Nat→Nat→Pa.R (List Mill.Tr)
 | 0,_=>none
 | n+1,i=>Pa.bd (Pa.rank ts n 1 i) fun c j=>Pa.bd (Pa.iblock ts n j) fun us k =>
  if Pa.st ts 2 [101,108,115,101] k then
   if Pa.st ts 2 [105,102] (k+1) then Pa.bd (Pa.ifr ts n (k+2)) fun vs l=>some (.ok ([c,Pa.br 21 0 0 [] us,Pa.br 12 0 0 [] vs],l))
   else Pa.bd (Pa.iblock ts n (k+1)) fun vs l=>some (.ok ([c,Pa.br 21 0 0 [] us,Pa.br 21 0 0 [] vs],l))
  else some (.ok ([c,Pa.br 21 0 0 [] us],k))
def Pa.istmt (ts:List (Mill.Piece × Nat)):Nat→Nat→Pa.R Mill.Tr
 | 0,_=>none
 | n+1,i =>
  if Pa.st ts 2 [105,102] i then Pa.bd (Pa.ifr ts n (i+1)) fun us j=>some (.ok (Pa.br 12 0 0 [] us,j))
  else if Pa.st ts 2 [119,104,105,108,101] i then Pa.bd (Pa.rank ts n 1 (i+1)) fun c j=>Pa.bd (Pa.iblock ts n j) fun us k=>some (.ok (Pa.br 13 0 0 [] [c,Pa.br 21 0 0 [] us],k))
  else Pa.bd (Pa.short ts n i) fun t j=>Pa.bd (Pa.nd ts 5 [59] j) fun _ k=>some (.ok (t,k))
def Pa.short (ts:List (Mill.Piece × Nat)):Nat→Nat→Pa.R Mill.Tr
 | 0,_=>none
 | n+1,i =>
  if Pa.st ts 2 [108,101,116] i then Pa.bd (Pa.iname ts (i+1)) fun x j=>Pa.bd (Pa.nd ts 5 [61] j) fun _ k=>Pa.bd (Pa.rank ts n 1 k) fun t l=>some (.ok (Pa.br 10 0 0 x [t],l))
  else if Pa.st ts 2 [98,114,101,97,107] i then some (.ok (Pa.lf 14 0 0 0 [],i+1))
  else if Pa.st ts 2 [99,111,110,116,105,110,117,101] i then some (.ok (Pa.lf 15 0 0 0 [],i+1))
  else if Pa.st ts 2 [114,101,116,117,114,110] i then
   if Pa.st ts 5 [59] (i+1) then some (.ok (Pa.lf 16 0 0 0 [],i+1))
   else Pa.bd (Pa.rank ts n 1 (i+1)) fun t j=>some (.ok (Pa.br 16 0 0 [] [t],j))
  else if Pa.st ts 2 [102,97,105,108] i then Pa.bd (Pa.rank ts n 1 (i+1)) fun t j=>some (.ok (Pa.br 17 0 0 [] [t],j))
  else if Pa.st ts 2 [119,114,105,116,101] i then Pa.bd (Pa.rank ts n 1 (i+1)) fun t j=>Pa.bd (Pa.nd ts 5 [44] j) fun _ k=>Pa.bd (Pa.rank ts n 1 k) fun u l=>some (.ok (Pa.br 18 0 0 [] [t,u],l))
  else if Pa.st ts 2 [115,97,121] i then Pa.bd (Pa.rank ts n 1 (i+1)) fun t j=>some (.ok (Pa.br 19 0 0 [] [t],j))
  else Pa.bd (Pa.iname ts i) fun x j =>
   if Pa.st ts 5 [61] j then Pa.bd (Pa.rank ts n 1 (j+1)) fun t k=>some (.ok (Pa.br 11 0 0 x [t],k))
   else Pa.bd (Pa.call ts n j) fun us k=>some (.ok (Pa.br 20 0 0 [] [Pa.br 7 0 0 x us],k))
end
def Pa.ipars (ts:List (Mill.Piece × Nat)):Nat→List Mill.Tr→Nat→Pa.R (List Mill.Tr)
 | 0,_,_=>none
 | n+1,us,i=>Pa.bd (Pa.iname ts i) fun x j=>Pa.bd (Pa.itype ts j) fun t k =>
  if Pa.st ts 5 [41] k then some (.ok (us++[Pa.lf 22 0 (t:Int) 0 x],k+1))
  else Pa.bd (Pa.nd ts 5 [44] k) fun _ l=>Pa.ipars ts n (us++[Pa.lf 22 0 (t:Int) 0 x]) l
def Pa.ifn (ts:List (Mill.Piece × Nat)):Nat→Nat→Pa.R Mill.Tr
 | 0,_=>none
 | n+1,i=>Pa.bd (Pa.nd ts 2 [102,110] i) fun _ j=>Pa.bd (Pa.iname ts j) fun x k=>Pa.bd (Pa.nd ts 5 [40] k) fun _ l =>
  Pa.bd (if Pa.st ts 5 [41] l then some (.ok ([],l+1)) else Pa.ipars ts n [] l) fun ps m =>
  Pa.bd (if Pa.st ts 5 [45,62] m then Pa.itype ts (m+1) else some (.ok (0,m))) fun t o =>
  Pa.bd (Pa.iblock ts n o) fun us q=>some (.ok (Pa.br 23 0 (t:Int) x (ps++[Pa.br 21 0 0 [] us]),q))
def Pa.iprog (ts:List (Mill.Piece × Nat)):Nat→List Mill.Tr→Nat→Pa.R (List Mill.Tr)
 | 0,_,_=>none
 | n+1,us,i=>if i < ts.length then Pa.bd (Pa.ifn ts n i) fun t j=>Pa.iprog ts n (us++[t]) j else some (.ok (us,i))
mutual
def Pa.list : Mill.Tr→List Mill.Nd
 | .node d us=>Pa.lists us++[d]
def Pa.lists : List Mill.Tr→List Mill.Nd
 | []=>[]
 | t::r=>Pa.list t++Pa.lists r
end
structure Pa.Fr (g:Nat) (w w':World):Prop where
 os:w'.os=w.os
 tape:w'.tape=w.tape
 output:w'.output=w.output
 size:w.heap.size≤w'.heap.size
 keep:∀ k,k < w.heap.size→k≠g→w'.heap[k]? = w.heap[k]?
theorem Pa.Fr.refl (g:Nat) (w:World):Pa.Fr g w w:=⟨rfl,rfl,rfl,Nat.le_refl _,fun _ _ _=>rfl⟩
theorem Pa.Fr.trans {g:Nat} {a b c:World} (h:Pa.Fr g a b) (k:Pa.Fr g b c):Pa.Fr g a c :=
 ⟨k.os.trans h.os,k.tape.trans h.tape,k.output.trans h.output,Nat.le_trans h.size k.size,fun i hi hs=>(k.keep i (Nat.lt_of_lt_of_le hi h.size) hs).trans (h.keep i hi hs)⟩
theorem Pa.Fr.of_below {g:Nat} {a b:World} (h:Below a.heap.size a b):Pa.Fr g a b:=⟨h.os,h.tape,h.output,h.size,fun i hi _=>h.block i hi⟩
theorem Pa.Fr.set {g:Nat} (w:World) (i:Nat) (v:Value):Pa.Fr g w (w.setCell ⟨g,i,none⟩ v) :=
 ⟨rfl,rfl,rfl,by simp [World.setCell],fun _ _ hk=>Below.heap_setCell _ _ _ _ hk⟩
theorem Pa.Fr.below {g B:Nat} {w w':World} (h:Pa.Fr g w w') (hB:B≤w.heap.size) (hs:B≤g):Below B w w':=⟨h.os,h.tape,h.output,h.size,fun k hk=>h.keep k (by omega) (by omega)⟩
theorem Pa.Fr.cell {g:Nat} {w w':World} (h:Pa.Fr g w w') {b o:Nat} (hb:b < w.heap.size) (hg:b≠g):w'.cell? ⟨b,o,none⟩=w.cell? ⟨b,o,none⟩:=World.cell?_of_block (h.keep b hb hg)
theorem Pa.Fr.frozen {g:Nat} {w w':World} (h:Pa.Fr g w w') {b o:Nat} (hb:b < w.heap.size) (hg:b≠g):w'.frozen? ⟨b,o,none⟩=w.frozen? ⟨b,o,none⟩:=by
 have:=h.keep b hb hg
 simp only [World.frozen?,this]
theorem Pa.Fr.own {g:Nat} {w w':World} (h:Pa.Fr g w w') {B e size n:Nat} {v:Value} {xs:List Value} (ho:w.ownsRow B e size v n xs) (hB:g < B):w'.ownsRow B e size v n xs:=by
 refine ⟨ho.1, ?_⟩
 rcases ho.2 with hn | ⟨b,cap,cur,hv,hg,hgg,rest⟩
 ·exact .inl hn
 ·exact .inr ⟨b,cap,cur,hv,hg,by rw [h.keep b (Array.getElem?_eq_some_iff.1 hgg).1 (by omega)];exact hgg,rest⟩
def Pa.Tks (w:World) (a:Option Addr) (ts:List (Mill.Piece × Nat)) (B:Nat):Prop :=
 ∀ i (h:i < ts.length),∃ b,a=some ⟨b,0,none⟩∧b < B∧∀ j (v:Value),(Mill.tokC ts[i])[j]? = some v→w.cell? ⟨b,i * 5+j,none⟩=some v
structure Pa.D (ts:List (Mill.Piece × Nat)) (g:Nat) (a:Option Addr) (c:Nat) (s:Pa.S) (w:World):Prop where
 blk:w.heap[g]? = some (.cells #[.slice a ts.length c,.int .i64 (s.p:Int),.bool s.bad] 38)
 tks:Pa.Tks w a ts g
 le:s.p≤ts.length
 len:ts.length≤12000
 cap:ts.length≤c
variable {ts:List (Mill.Piece × Nat)} {g:Nat} {a:Option Addr} {c:Nat} {s:Pa.S} {w:World}
theorem Pa.D.lt (h:Pa.D ts g a c s w):g < w.heap.size:=(Array.getElem?_eq_some_iff.1 h.blk).1
theorem Pa.D.cells (h:Pa.D ts g a c s w):w.cell? ⟨g,0,none⟩=some (.slice a ts.length c)∧w.cell? ⟨g,1,none⟩=some (.int .i64 (s.p:Int))∧w.cell? ⟨g,2,none⟩=some (.bool s.bad)∧w.frozen? ⟨g,1,none⟩=false∧w.frozen? ⟨g,2,none⟩=false:=by
 have hb:=h.blk
 refine ⟨?_, ?_, ?_, ?_, ?_⟩
 ·rw [Lib.cell_of_heap hb];rfl
 ·rw [Lib.cell_of_heap hb];rfl
 ·rw [Lib.cell_of_heap hb];rfl
 ·simp [World.frozen?,hb]
 ·simp [World.frozen?,hb]
theorem Pa.D.tok (h:Pa.D ts g a c s w) (hp:s.p < ts.length):∃ b,a=some ⟨b,0,none⟩∧b < g∧w.cell? ⟨b,s.p * 5,none⟩=some (.int .i64 (Pa.kd ts s.p))∧w.cell? ⟨b,s.p * 5+1,none⟩=some (.string (Mill.ba (Pa.tx ts s.p)))∧w.cell? ⟨b,s.p * 5+2,none⟩=some (.int .i64 (Pa.ty ts s.p))∧w.cell? ⟨b,s.p * 5+3,none⟩=some (.int .i64 (Pa.nm ts s.p))∧∃ z,w.cell? ⟨b,s.p * 5+4,none⟩=some (.int .i64 z):=by
 obtain ⟨b,ha,hb,hc⟩:=h.tks s.p hp
 have e:ts[s.p]? = some ts[s.p]:=List.getElem?_eq_getElem hp
 refine ⟨b,ha,hb, ?_, ?_, ?_, ?_, ?_⟩
 ·have:=hc 0 _ rfl;simpa [Pa.kd,e] using this
 ·have:=hc 1 _ rfl;simpa [Pa.tx,e] using this
 ·have:=hc 2 _ rfl;simpa [Pa.ty,e] using this
 ·have:=hc 3 _ rfl;simpa [Pa.nm,e] using this
 ·exact ⟨_,hc 4 _ rfl⟩
theorem Pa.Tks.keep {w w':World} {B:Nat} (h:Pa.Tks w a ts B) (hk:∀ k,k < B→w'.heap[k]? = w.heap[k]?):Pa.Tks w' a ts B:=fun i hi=>by
 obtain ⟨b,ha,hb,hc⟩:=h i hi
 exact ⟨b,ha,hb,fun j v hv=>by rw [World.cell?_of_block (hk b hb)];exact hc j v hv⟩
theorem Pa.D.below {w':World} (h:Pa.D ts g a c s w) (hb:Below w.heap.size w w'):Pa.D ts g a c s w' :=
 ⟨(hb.block g h.lt).trans h.blk,h.tks.keep fun k hk=>hb.block k (Nat.lt_trans hk h.lt),h.le,h.len,h.cap⟩
theorem Pa.D.bad (h:Pa.D ts g a c s w) (b:Bool):Pa.D ts g a c ⟨s.p,b⟩ (w.setCell ⟨g,2,none⟩ (.bool b)):=by
 refine ⟨?_,h.tks.keep fun k hk=>Below.heap_setCell _ _ _ _ (by simp only;omega),h.le,h.len,h.cap⟩
 have:=h.blk
 simp [World.setCell,Array.getElem?_modify,this]
theorem Pa.D.at (h:Pa.D ts g a c s w) (q:Nat) (hq:q≤ts.length):Pa.D ts g a c ⟨q,s.bad⟩ (w.setCell ⟨g,1,none⟩ (.int .i64 (q:Int))):=by
 refine ⟨?_,h.tks.keep fun k hk=>Below.heap_setCell _ _ _ _ (by simp only;omega),hq,h.len,h.cap⟩
 have:=h.blk
 simp [World.setCell,Array.getElem?_modify,this]
theorem Pa.ba_list (l:List UInt8):(Mill.ba l).toList=l:=by
 rw [ByteArray.toList_eq];rfl
theorem Pa.kd_end {i:Nat} (h:¬ i < ts.length):Pa.kd ts i=0:=by
 have:ts[i]? = none:=by simp;omega
 simp [Pa.kd,this]
theorem Pa.is_lt {T:List UInt8} (h:Pa.is ts T s=true):s.p < ts.length∧s.bad=false:=by
 by_cases hp:s.p < ts.length
 ·exact ⟨hp,by unfold Pa.is at h;simp at h;exact h.1.1⟩
 ·simp [Pa.is,Pa.kd_end hp] at h
theorem Pa.below_drewN {B:Nat} {a w:World} (n:Nat) (h:Below B a w):Below B a (w.drewN n):=⟨h.os,h.tape,h.output,h.size,h.block⟩
theorem Pa.below_drew {B:Nat} {a w:World} (h:Below B a w):Below B a w.drew:=⟨h.os,h.tape,h.output,h.size,h.block⟩
theorem Pa.is_any (T:List UInt8) (hD:Pa.D ts g a c s w) :
  Calls Tryz.prog 43 #[.pointer (some ⟨g,0,none⟩),.string ⟨T.toArray⟩] w fun e w'=>e = .returned (.bool (Pa.is ts T s))∧Below w.heap.size w w':=by
 obtain ⟨c0,c1,c2,_,_⟩:=hD.cells
 obtain ⟨b,hb⟩:∃ b,s.bad=b:=⟨_,rfl⟩
 rw [hb] at c2
 cases b with
 | true =>
  have HI:Pa.is ts T s=false:=by simp [Pa.is,hb]
  rw [HI]
  clear hb HI
  go_enter Tryz.func43,Tryz.ntmps43
  go_wp2_with fail
  go_quiet (fail)
  go_wp2_with fail
  go_ret
  exact ⟨rfl,Pa.below_drewN _ (Below.refl _ _)⟩
 | false =>
  have hlen:=hD.len
  have hcap:=hD.cap
  by_cases hp:s.p < ts.length
  ·obtain ⟨b,rfl,hbg,k0,k1,k2,k3,z,k4⟩:=hD.tok hp
   have hbw:b < w.heap.size:=Nat.lt_trans hbg hD.lt
   have hgw:g < w.heap.size:=hD.lt
   have HI:Hid (Pa.is ts T s=((Pa.kd ts s.p == 5 || Pa.kd ts s.p == 2) && (Mill.ba (Pa.tx ts s.p)).toList == (⟨T.toArray⟩:ByteArray).toList)):=by
    have e1:=Pa.ba_list (Pa.tx ts s.p)
    have e2:=Pa.ba_list T
    rw [Hid,Pa.is,hb,e1]
    simp only [Mill.ba] at e2
    rw [e2];simp
   generalize Pa.kd ts s.p=K at *
   generalize Mill.ba (Pa.tx ts s.p)=X at *
   generalize Pa.ty ts s.p=Y at *
   generalize Pa.nm ts s.p=Z at *
   generalize (⟨T.toArray⟩:ByteArray)=U at *
   obtain ⟨R,hR⟩:∃ R,Pa.is ts T s=R:=⟨_,rfl⟩
   rw [hR] at HI ⊢
   generalize hN:ts.length=n at *
   generalize hP:s.p=p at *
   clear hN hP hR hD hb
   have hpn:(p:Int) < (n:Int):=by omega
   have hpz:(0:Int)≤(p:Int):=by omega
   have hd:decide ((n:Int)≤(p:Int))=false:=by simp;omega
   have HS:Hid (∀ W,Below w.heap.size w W→W.cell? ⟨g,0,none⟩=some (.slice (some ⟨b,0,none⟩) n c)∧W.cell? ⟨g,1,none⟩=some (.int .i64 (p:Int))∧W.cell? ⟨b,p * 5,none⟩=some (.int .i64 K)∧W.cell? ⟨b,p * 5+1,none⟩=some (.string X)∧W.cell? ⟨b,p * 5+2,none⟩=some (.int .i64 Y)∧W.cell? ⟨b,p * 5+3,none⟩=some (.int .i64 Z)∧W.cell? ⟨b,p * 5+4,none⟩=some (.int .i64 z)):=by
    intro W hW
    have e:=Mill.bcell hW
    refine ⟨?_, ?_, ?_, ?_, ?_, ?_, ?_⟩
    ·rw [e.1 _ _ hgw];exact c0
    ·rw [e.1 _ _ hgw];exact c1
    ·rw [e.1 _ _ hbw];exact k0
    ·rw [e.1 _ _ hbw];exact k1
    ·rw [e.1 _ _ hbw];exact k2
    ·rw [e.1 _ _ hbw];exact k3
    ·rw [e.1 _ _ hbw];exact k4
   go_enter Tryz.func43,Tryz.ntmps43
   go_wp2_with fail
   go_quiet (fail)
   go_wp2_with fail
   obtain ⟨W0,hW0⟩:∃ W,w.drewN nq=W:=⟨_,rfl⟩
   rw [hW0]
   have B0:Below w.heap.size w W0:=by rw [← hW0];exact Pa.below_drewN _ (Below.refl _ _)
   have hsz:W0.heap.size=w.heap.size:=by rw [← hW0];rfl
   clear hW0 c0 c1 c2 k0 k1 k2 k3 k4
   obtain ⟨c0,c1,k0,k1,k2,k3,k4⟩:=HS.out _ B0
   have HS2:=HS.out
   rw [← hsz] at hgw hbw
   clear HS
   have HS:Hid (∀ W,Below W0.heap.size W0 W→W.cell? ⟨g,0,none⟩=some (.slice (some ⟨b,0,none⟩) n c)∧W.cell? ⟨g,1,none⟩=some (.int .i64 (p:Int))∧W.cell? ⟨b,p * 5,none⟩=some (.int .i64 K)∧W.cell? ⟨b,p * 5+1,none⟩=some (.string X)∧W.cell? ⟨b,p * 5+2,none⟩=some (.int .i64 Y)∧W.cell? ⟨b,p * 5+3,none⟩=some (.int .i64 Z)∧W.cell? ⟨b,p * 5+4,none⟩=some (.int .i64 z)):=fun W hW=>HS2 W (B0.trans (hW.mono (by omega)))
   clear HS2
   go_region_held3 (fun W=>W.cell? ⟨g,0,none⟩=some (.slice (some ⟨b,0,none⟩) n c)∧W.cell? ⟨g,1,none⟩=some (.int .i64 (p:Int))∧W.cell? ⟨b,p * 5,none⟩=some (.int .i64 K)∧W.cell? ⟨b,p * 5+1,none⟩=some (.string X)∧W.cell? ⟨b,p * 5+2,none⟩=some (.int .i64 Y)∧W.cell? ⟨b,p * 5+3,none⟩=some (.int .i64 Z)∧W.cell? ⟨b,p * 5+4,none⟩=some (.int .i64 z)) (exact HS.out _ (by repeat' (first | exact Below.refl _ _ | apply Below.drew | apply Pa.below_drewN | refine Below.alloc ?_ ?_ _ | refine Below.setCell ?_ ?_ _ | exact Nat.le_refl _ | (simp;done) | (simp;omega)))) (fail)
   obtain ⟨W1,hW1⟩:∃ W,(W0.alloc (.cells #[.int .i64 K,.string X,.int .i64 Y,.int .i64 Z,.int .i64 z] 41)).drew=W:=⟨_,rfl⟩
   have d0:W1.cell? ⟨w.heap.size,0,none⟩=some (.int .i64 K):=by rw [← hW1,← hsz];simp [go_sem]
   have d1:W1.cell? ⟨w.heap.size,1,none⟩=some (.string X):=by rw [← hW1,← hsz];simp [go_sem]
   have B1:Hid (Below w.heap.size w W1):=by rw [Hid,← hW1];exact Pa.below_drew (B0.alloc (by omega) _)
   rw [hW1]
   clear hW1 B0 HS c0 c1 k0 k1 k2 k3 k4
   cases e5:(K == 5) <;> cases e2:(K == 2) <;> cases e1:(X.toList == U.toList)
   all_goals
    rw [e5,e2,e1] at HI
    simp at HI
    go_wp2_with fail
    go_ret
    exact ⟨by rw [HI.out];rfl,B1.out⟩
  ·have HI:Pa.is ts T s=false:=by simp [Pa.is,Pa.kd_end hp]
   rw [HI]
   generalize hN:ts.length=n at *
   generalize hP:s.p=p at *
   clear hN hP HI hD hb
   have hd:decide ((n:Int)≤(p:Int))=true:=by simp;omega
   have hd':decide (n≤p)=true:=by simp;omega
   go_enter Tryz.func43,Tryz.ntmps43
   go_wp2_with fail
   go_quiet (fail)
   go_wp2_with fail
   go_ret
   exact ⟨rfl,Pa.below_drewN _ (Below.refl _ _)⟩
theorem Pa.bd_some {α β:Type} {m:Pa.R α} {f:α→Nat→Pa.R β} {y:Except Nat (β × Nat)} (h:Pa.bd m f=some y):(∃ k,m=some (.error k)∧y = .error k)∨∃ x,m=some (.ok x)∧f x.1 x.2=some y:=by
 unfold Pa.bd at h
 split at h
 ·simp at h
 ·simp at h;exact .inl ⟨_,rfl,h.symm⟩
 ·exact .inr ⟨_,rfl,h⟩
theorem Pa.bd_ok_some {α β:Type} {m:Pa.R α} {f:α→Nat→Pa.R β} {y:β × Nat} (h:Pa.bd m f=some (.ok y)):∃ x,m=some (.ok x)∧f x.1 x.2=some (.ok y):=by
 rcases Pa.bd_some h with ⟨k,_,h2⟩ | h2
 ·simp at h2
 ·exact h2
theorem Pa.nd_ok {ts:List (Mill.Piece × Nat)} {k:Int} {T:List UInt8} {i:Nat} {x:Unit × Nat} (h:Pa.nd ts k T i=some (.ok x)):x.2=i+1:=by
 unfold Pa.nd at h;split at h
 ·simp at h;rw [← h]
 ·simp at h
structure Pa.Lt (ts:List (Mill.Piece × Nat)) (n:Nat):Prop where
 unm:∀ i x,Pa.unm ts n i=some (.ok x)→i < x.2
 word:∀ i x,Pa.iword ts n i=some (.ok x)→i < x.2
 brk:∀ i x,Pa.brk ts n i=some (.ok x)→i < x.2
 brest:∀ k i x,Pa.brest ts n k i=some (.ok x)→i < x.2
 brestL:∀ k j us i x,Pa.brestL ts n k j us i=some (.ok x)→i≤x.2
 call:∀ i x,Pa.call ts n i=some (.ok x)→i < x.2
 args:∀ us i x,Pa.args ts n us i=some (.ok x)→i < x.2
 rank:∀ l i x,Pa.rank ts n l i=some (.ok x)→i < x.2
 rankL:∀ l m t i x,Pa.rankL ts n l m t i=some (.ok x)→i≤x.2
theorem Pa.lt_all (ts:List (Mill.Piece × Nat)):∀ n,Pa.Lt ts n
 | 0=>by constructor <;> intros <;> rename_i h <;> simp [Pa.unm,Pa.iword,Pa.brk,Pa.brest,Pa.brestL,Pa.call,Pa.args,Pa.rank,Pa.rankL] at h
 | n+1=>by
  have ih:=Pa.lt_all ts n
  constructor
  ·intro i x h
   rw [Pa.unm] at h
   split at h
   ·obtain ⟨y,h1,h2⟩:=Pa.bd_ok_some h
    have:=ih.unm _ _ h1
    simp at h2;rw [← h2];simp;omega
   ·split at h
    ·simp at h;rw [← h];simp
    ·split at h
     ·simp at h;rw [← h];simp
     ·split at h
      ·split at h
       ·obtain ⟨y,h1,h2⟩:=Pa.bd_ok_some h
        have:=ih.call _ _ h1
        simp at h2;rw [← h2];simp;omega
       ·simp at h;rw [← h];simp
      ·split at h
       ·exact ih.word _ _ h
       ·exact ih.brk _ _ h
  ·intro i x h
   rw [Pa.iword] at h
   split at h
   ·simp at h;rw [← h];simp
   ·split at h
    ·simp at h;rw [← h];simp
    ·split at h
     ·obtain ⟨y,h1,h2⟩:=Pa.bd_ok_some h
      have:=ih.brest _ _ _ h1
      simp at h2;rw [← h2];simp;omega
     ·split at h
      ·simp at h
      ·obtain ⟨y,h1,h2⟩:=Pa.bd_ok_some h
       have:=ih.brk _ _ h1
       simp at h2;rw [← h2];simp;omega
  ·intro i x h
   rw [Pa.brk] at h
   obtain ⟨y,h1,h2⟩:=Pa.bd_ok_some h
   obtain ⟨z,h3,h4⟩:=Pa.bd_ok_some h2
   obtain ⟨u,h5,h6⟩:=Pa.bd_ok_some h4
   have a:=Pa.nd_ok h1
   have b:=ih.rank _ _ _ h3
   have c:=Pa.nd_ok h5
   simp at h6;rw [← h6];simp;omega
  ·intro k i x h
   rw [Pa.brest] at h
   obtain ⟨y,h1,h2⟩:=Pa.bd_ok_some h
   obtain ⟨z,h3,h4⟩:=Pa.bd_ok_some h2
   obtain ⟨u,h5,h6⟩:=Pa.bd_ok_some h4
   have a:=Pa.nd_ok h1
   have b:=ih.brestL _ _ _ _ _ h3
   have c:=Pa.nd_ok h5
   simp at h6;rw [← h6];simp;omega
  ·intro k j us i x h
   rw [Pa.brestL] at h
   split at h
   ·obtain ⟨y,h1,h2⟩:=Pa.bd_ok_some h
    obtain ⟨z,h3,h4⟩:=Pa.bd_ok_some h2
    have b:=ih.rank _ _ _ h3
    have c:=ih.brestL _ _ _ _ _ h4
    split at h1
    ·have a:=Pa.nd_ok h1;omega
    ·simp at h1;rw [← h1] at b;simp at b;omega
   ·simp at h;rw [← h];simp
  ·intro i x h
   rw [Pa.call] at h
   obtain ⟨y,h1,h2⟩:=Pa.bd_ok_some h
   have a:=Pa.nd_ok h1
   split at h2
   ·simp at h2;rw [← h2];simp;omega
   ·have:=ih.args _ _ _ h2;omega
  ·intro us i x h
   rw [Pa.args] at h
   obtain ⟨y,h1,h2⟩:=Pa.bd_ok_some h
   have a:=ih.rank _ _ _ h1
   split at h2
   ·simp at h2;rw [← h2];simp;omega
   ·obtain ⟨z,h3,h4⟩:=Pa.bd_ok_some h2
    have b:=Pa.nd_ok h3
    have:=ih.args _ _ _ h4;omega
  ·intro l i x h
   rw [Pa.rank] at h
   obtain ⟨y,h1,h2⟩:=Pa.bd_ok_some h
   have a:=ih.unm _ _ h1
   have b:=ih.rankL _ _ _ _ _ h2
   omega
  ·intro l m t i x h
   rw [Pa.rankL] at h
   split at h
   ·simp at h;rw [← h];simp
   ·obtain ⟨y,h1,h2⟩:=Pa.bd_ok_some h
    have a:=ih.rank _ _ _ h1
    have b:=ih.rankL _ _ _ _ _ h2
    omega
end Go.Proofs.YtlcckaffhnjneaaGreatDoor
