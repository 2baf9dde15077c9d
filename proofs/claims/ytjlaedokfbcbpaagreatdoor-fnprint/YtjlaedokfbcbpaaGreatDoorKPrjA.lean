import Derived.Test.YtjlaedokfbcbpaaGreatDoorKPriZA
import Derived.Lib.FrozenHead2
import Derived.Lib.Builder
import Derived.Shelf.Strings.BuilderK
set_option maxRecDepth 100000
set_option maxHeartbeats 4000000
namespace Go.Proofs.YtjlaedokfbcbpaaGreatDoor
open Go.RowKit Proofs.Tryz
theorem Ta : (prog.info? 45).map (·.size)=some 2:=OE
theorem Pd : liesAt prog prog.depth 45 (2 / prog.cellsOf 45) 0 45 1=true:=OE
theorem Qpp : liesAt prog prog.depth 47 (2 / prog.cellsOf 47) 0 45 1=true:=OE
theorem Wl (b:Nat) (w:World) (h0:w.cell? (OK b 0)=some (.pointer (some (OK b 0)))) :
  Calls prog 108 #[.pointer (some (OK b 0))] w fun e w'=>e = .returned (.tuple #[])/\w'=w:=by
 obtain⟨j,a,_⟩:=Option.map_eq_some_iff.1 Ta;go_enter func108,ntmps108;go_wp2;rw[Lib.run_neq_ptr_same w _ underlying43 a];go_wp2;go_end0;exact⟨rfl,rfl⟩
theorem U4 (T:TypeId) (hlies:liesAt prog prog.depth T (2 / prog.cellsOf T) 0 45 1=true) (b:Nat) (w:World) (h0:w.cell? (OK b 0)=some (.pointer none)) (hsh:w.shape? b=some (T,2)) (hfz:w.frozen? (OK b 0)=false) :
  Calls prog 108 #[.pointer (some (OK b 0))] w fun e w'=>e = .returned (.tuple #[])/\w'=w.setCell (OK b 0) (.pointer (some (OK b 0))):=by
 obtain⟨j,c,a⟩:=Option.map_eq_some_iff.1 Ta;go_enter func108,ntmps108;go_wp2;rw[Lib.run_to_unsafe w (OK b 0) underlying43 underlying227 c (by rw[a];decide) hsh (Nat.zero_lt_succ 1)];simp only[Result.andThen];rw[Oper.upon_value];go_wp2;rw[run_callFunc_extern func135 OE OE OE (e:=Extern.AbiNoEscape.same) OE];rw[Lib.run_noEscape];simp only[Result.andThen];rw[Oper.upon_value];go_wp2;rw[Lib.run_from_unsafe w (OK b 0) underlying227 underlying43 c hsh hlies];simp only[Result.andThen];rw[Oper.upon_value];go_wp2;go_end0;exact⟨rfl,rfl⟩
theorem Uj (T:TypeId) (hlies:liesAt prog prog.depth T (2 / prog.cellsOf T) 0 45 1=true) (B b:Nat) (bs:List Value) (w:World) (h:Lib.IsBuilderF T 5 B b bs w) :
  Calls prog 108 #[.pointer (some (OK b 0))] w fun e w'=>e = .returned (.tuple #[])/\(Lib.BuilderAtF T 5 B b (.pointer (some (OK b 0))) bs w'/\Below B w w'/\Lib.OthersKept 5 (some b) w w'):=by
 rcases h with h|h
 ·refine(U4 T hlies b w h.cell0 h.shape h.frozen0).mono ?_;rintro e w' ⟨rfl,rfl⟩;exact⟨rfl,h.used _,(Below.refl B w).setCell (p:=(OK b 0)) h.1 _,(Lib.OthersKept.refl _ _ w).setCell (OK b 0) rfl _⟩
 ·refine(Wl b w h.cell0).mono ?_;rintro e w' ⟨rfl,rfl⟩;exact⟨rfl,h,Below.refl B _,Lib.OthersKept.refl _ _ _⟩
theorem Qpq : 47≠5:=by decide
theorem Rm : 45≠5:=by decide
theorem Zy (T:TypeId) (hlies:liesAt prog prog.depth T (2 / prog.cellsOf T) 0 45 1=true) (hne5:T≠5) (B b:Nat) (bs:List Value) (s:ByteArray) (w:World) (h:Lib.IsBuilderF T 5 B b bs w) (hlen:bs.length+s.size<=140737488355328) (hBw:B<=w.heap.size) :
  Calls prog 72 #[.pointer (some (OK b 0)),.string s] w fun e w'=>e = .returned (.tuple #[.int .i64 s.size,.nilIface])/\(Lib.BuilderAtF T 5 B b (.pointer (some (OK b 0))) (bs++Lib.strCells s) w'/\Below B w w'/\Lib.OthersKept 5 (some b) w w'):=by
 obtain⟨G,F,t,u,x⟩:=info_parts Tryz.infoByte;go_enter func72,ntmps72;go_wp2_with (go_at_call 108;refine(Uj T hlies B b bs _ h).mono ?_);rintro e y ⟨rfl,E,l,n⟩;obtain⟨A,v,i,c,q⟩:=E;have H:y.cell? (OK b 0)=some (.pointer (some (OK b 0))):=by rw[Lib.cell_of_heap i];rfl
 have I:y.cell? (OK b 1)=some v:=by rw[Lib.cell_of_heap i];rfl
 go_wp2_with (at_builtin;refine Lib.wpList_append_own_stringF _ rfl _ _ 22 9 rfl B 5 G underlying22 underlying9 F t u x _ _ _ rfl c s rfl ?c3 ?c4 ?c5 ?_);case c3=>unfold maxLen;omega
 case c4=>omega
 case c5=>have:=l.size;omega
 intro v' m d a _;have o:b < y.heap.size:=(Array.getElem?_eq_some_iff.1 i).1;have f:m.heap[b]? = some (.cells #[.pointer (some (OK b 0)),v] T (0,0)):=by
  rw[a.block b o (fun e=>q e.symm)];exact i
 have J:m.cell? (OK b 0)=some (.pointer (some (OK b 0))):=by rw[Lib.cell_of_heap f];rfl
 have K:m.cell? (OK b 1)=some v:=by rw[Lib.cell_of_heap f];rfl
 have L:m.frozen? (OK b 1)=false:=Lib.frozen_of_heap f 1;obtain⟨z,C,j,rfl⟩:∃ z C j,v' = .slice z C j:=by
  rcases d.2 with⟨r,_⟩|⟨g,j,D,M,r,_⟩
  ·exact⟨_,_,_,r⟩
  ·exact⟨_,_,_,r⟩
 go_wp2;go_ret2;refine⟨rfl, ?_, ?_,(n.grown a (Lib.ownsRowF_kind c)).setCell (OK b 1) rfl _⟩
 ·exact Lib.BuilderAtF.put (T:=T) (e:=5) A f (bs':=bs++Lib.strCells s) (by simpa[Lib.strCells_length]using d) hne5
 ·exact(l.grown a (by have:=l.size;omega) (fun k hk=>(c.lt k hk).1)).setCell (p:=(OK b 1)) A _
theorem Qpo (T:TypeId) (B b:Nat) (bs:List Value) (w:World) (h:Lib.IsBuilderF T 5 B b bs w) :
  Calls prog 38 #[.pointer (some (OK b 0))] w fun e w'=>e = .returned (.int .i64 (bs.length:Int))/\w=w':=by
 obtain⟨p,d⟩:∃ p,Lib.BuilderAtF T 5 B b p bs w:=by
  rcases h with h|h
  ·exact⟨_,h⟩
  ·exact⟨_,h⟩
 obtain⟨q,v,f,c,m⟩:=d;have n:w.cell? (OK b 1)=some v:=by rw[Lib.cell_of_heap f];rfl
 obtain⟨j,a,rfl⟩:∃ j a,v = .slice j bs.length a:=by
  rcases c.2 with⟨i,l⟩|⟨g,a,k,o,i,_⟩
  ·exact⟨none,0,by rw[l];exact i⟩
  ·exact⟨_,_,i⟩
 go_enter func38,ntmps38;go_wp2;go_ret;exact⟨rfl,rfl⟩
theorem Qbm (B b:Nat) (bs:List Value) (s:ByteArray) (w:World) (h:Lib.IsBuilderF 47 5 B b bs w) (hlen:bs.length+s.size<=140737488355328) (hBw:B<=w.heap.size) :
  Calls prog 72 #[.pointer (some (OK b 0)),.string s] w fun e w'=>e = .returned (.tuple #[.int .i64 s.size,.nilIface])/\(Lib.BuilderAtF 47 5 B b (.pointer (some (OK b 0))) (bs++Lib.strCells s) w'/\Below B w w'/\Lib.OthersKept 5 (some b) w w'):=Zy _ Qpp Qpq B b bs s w h hlen hBw
theorem Qp9 (B b:Nat) (bs:List Value) (w:World) (h:Lib.IsBuilderF 47 5 B b bs w) :
  Calls prog 38 #[.pointer (some (OK b 0))] w fun e w'=>e = .returned (.int .i64 (bs.length:Int))/\w=w':=Qpo _ B b bs w h
theorem Ju (T:TypeId) (hlies:liesAt prog prog.depth T (2 / prog.cellsOf T) 0 45 1=true) (hne5:T≠5) (B b:Nat) (bs:List Value) (c:Int) (w:World) (h:Lib.IsBuilderF T 5 B b bs w) (hlen:bs.length+1<=140737488355328) (hBw:B<=w.heap.size) :
  Calls prog 154 #[.pointer (some (OK b 0)),.int .u8 c] w fun e w'=>e = .returned .nilIface/\(Lib.BuilderAtF T 5 B b (.pointer (some (OK b 0))) (bs++[.int .u8 c]) w'/\Below B w w'/\Lib.OthersKept 5 (some b) w w'):=by
 obtain⟨K,I,z,A,C⟩:=info_parts Tryz.infoByte;go_enter func154,ntmps154;go_wp2_with (go_at_call 108;refine(Uj T hlies B b bs _ h).mono ?_);rintro e m ⟨rfl,H,o,s⟩;obtain⟨E,v,j,d,u⟩:=H;have L:m.cell? (OK b 0)=some (.pointer (some (OK b 0))):=by rw[Lib.cell_of_heap j];rfl
 have M:m.cell? (OK b 1)=some v:=by rw[Lib.cell_of_heap j];rfl
 have J:=o.size;go_wp2_with (at_builtin;refine wpList_append_ownF _ rfl _ _ 22 rfl B 5 K (.int .u8 0) 1 1 underlying22 I z A C rfl OD _ _ _ rfl (d.alloc _) (OK m.heap.size 0) 1 1 [.int .u8 c] rfl rfl (cell_one_new _ _ _) (fun x hx=>by simp at hx;subst hx;rfl) ?c3 ?c4 ?c5 ?_);case c3=>unfold maxLen;omega
 case c4=>omega
 case c5=>simp;omega
 intro v' r f a _;have t:b < m.heap.size:=(Array.getElem?_eq_some_iff.1 j).1;have l:Below B w (m.alloc (.cells #[.int .u8 c] 5)):=o.alloc OC _;have q:(m.alloc (.cells #[.int .u8 c] 5)).heap[b]? = some (.cells #[.pointer (some (OK b 0)),v] T (0,0)):=(((Below.refl m.heap.size m).alloc ON _).block b t).trans j;have i:r.heap[b]? = some (.cells #[.pointer (some (OK b 0)),v] T (0,0)):=by
  rw[a.block b OH (fun e=>u e.symm)];exact q
 have N:r.cell? (OK b 0)=some (.pointer (some (OK b 0))):=by rw[Lib.cell_of_heap i];rfl
 have O:r.cell? (OK b 1)=some v:=by rw[Lib.cell_of_heap i];rfl
 have P:r.frozen? (OK b 1)=false:=Lib.frozen_of_heap i 1;obtain⟨D,F,n,rfl⟩:∃ D F n,v' = .slice D F n:=by
  rcases f.2 with⟨y,_⟩|⟨g,n,G,Q,y,_⟩
  ·exact⟨_,_,_,y⟩
  ·exact⟨_,_,_,y⟩
 go_wp2;go_ret;refine⟨rfl, ?_, ?_,((s.alloc _).grown a (Lib.ownsRowF_kind (d.alloc _))).setCell (OK b 1) rfl _⟩
 ·exact Lib.BuilderAtF.put (T:=T) (e:=5) E i (bs':=bs++[.int .u8 c]) (by simpa using f) hne5
 ·exact(l.grown a (by have:=l.size;omega) (fun k hk=>(d.lt k hk).1)).setCell (p:=(OK b 1)) E _
theorem Qe9 : prog.cellsOf 5=1:=OE
theorem Qaw (T:TypeId) (B b:Nat) (l:List UInt8) (w:World) (h:Lib.IsBuilderF T 5 B b (Lib.byteCells l) w) (h0:l≠[]) :
  Calls prog 16 #[.pointer (some (OK b 0))] w fun e w'=>e = .returned (.string ⟨l.toArray⟩)/\Below B w w'/\Lib.OthersKept 5 (some b) w w':=by
 obtain⟨p,i⟩:∃ p,Lib.BuilderAtF T 5 B b p (Lib.byteCells l) w:=by
  rcases h with h|h
  ·exact⟨_,h⟩
  ·exact⟨_,h⟩
 obtain⟨I,v,m,d,D⟩:=i;have q:l.length≠0:=by simpa using h0
 rw[Lib.byteCells_length]at d;obtain⟨g,a,c,f,rfl,k,t,A,C,n,z,s⟩:∃ g a c f,v = .slice (some (OK g 0)) l.length a/\B<=g/\w.heap[g]? = some (.cells c 5 f)/\f.2<=l.length * 1/\l.length<=a/\a<=maxLen/\c.size=a * 1/\c.toList.take (l.length * 1)=Lib.byteCells l:=by
  rcases d.2 with⟨_,G⟩|⟨g,a,c,f,E,r⟩
  ·exact absurd G q
  ·exact⟨g,a,c,f,E,r⟩
 have H:w.drew.cell? (OK b 1)=some (.slice (some (OK g 0)) l.length a):=by
  have:w.drew.heap[b]? = some (.cells #[p,.slice (some (OK g 0)) l.length a] T (0,0)):=m;rw[Lib.cell_of_heap this];rfl
 have u:(Builtin.unsafeSliceData_ #[22] 98 #[.slice (some (OK g 0)) l.length a]).run prog w.drew = .ok (.pointer (some (OK g 0))) w.drew :=
  Lib.run_unsafeSliceData_row _ _ _ _ _ _ OC
 have y:(Builtin.unsafeString_ #[98,3] 9 #[.pointer (some (OK g 0)),.int .i64 l.length]).run prog w.drew = .ok (.string ⟨l.toArray⟩) (w.drew.freeze (OK g 0) l.length):=by
  refine Lib.run_unsafeString_row w.drew 98 3 9 5 underlying98 Qe9 g c.size (by have o:w.drew.heap[g]? = some (.cells c 5 f):=t;simp[World.shape?,o]) l h0 OC (by unfold maxLen at n;omega) ?_;intro j x F;have:=d.cells (g:=g) rfl j (.int .u8 x.toNat) (by simp[Lib.byteCells,F]);exact this
 go_enter func16,ntmps16;go_wp2;go_region;all_goals (go_wp2;go_ret;exact⟨rfl,Lib.below_freeze (Below.drew (Below.refl B w)) (p:=(OK g 0)) k _,((Lib.OthersKept.refl _ _ w).drew).freeze (OK g 0) _ ⟨c,f,t⟩⟩)
def Ao (g:Nat) (l:List UInt8) (w:World):Prop:=Lib.IsBuilderF 47 5 g g (Lib.byteCells l) w
def Am (g:Nat) (w w':World):Prop:=Below g w w'/\Lib.OthersKept 5 (some g) w w'
theorem Am.refl (g:Nat) (w:World):Am g w w:=⟨Below.refl g w,Lib.OthersKept.refl _ _ w⟩
theorem Am.trans {g:Nat} {a b c:World} (h:Am g a b) (k:Am g b c):Am g a c:=⟨h.1.trans k.1,h.2.trans k.2⟩
theorem Qh3 (g:Nat) (l:List UInt8) (hl:l.length<=100000000) (w:World) (h:Ao g l w) :
  Calls prog 15 #[.pointer (some (OK g 0))] w fun e w'=>e = .returned (.bool (decide (12000 < l.length)))/\w=w':=by
 have a:decide ((12000:Int) < (l.length:Int))=decide (12000 < l.length):=by simp;omega
 go_enter func15,ntmps15;go_wp2_with (go_at_call 38;refine(Qp9 g g (Lib.byteCells l) _ h).mono ?_;rintro e b ⟨rfl,rfl⟩;rw[Lib.byteCells_length]);go_ret;exact⟨rfl,rfl⟩
theorem F5 (b:Bool) (g:Nat) (l:List UInt8) (hl:l.length<=100000000) (hb:decide (12000 < l.length)=b) (w:World) (h:Ao g l w) :
  Calls prog 15 #[.pointer (some (OK g 0))] w fun e w'=>e = .returned (.bool b)/\w=w':=by
 rw[<- hb];exact Qh3 g l hl w h
def I4 (l:List UInt8) (x:ByteArray):List UInt8:=if 12000 < l.length then l else l++x.data.toList
def Gs (l:List UInt8) (xs:List ByteArray):List UInt8:=xs.foldl I4 l
theorem Vx (l:List UInt8) (h:12000 < l.length):∀ xs:List ByteArray,Gs l xs=l
 | []=>rfl
 | x::r=>by
  show Gs (I4 l x) r=l
  rw[I4,if_pos h];exact Vx l h r
theorem Yi (l:List UInt8) (a b:List ByteArray):Gs l (a++b)=Gs (Gs l a) b:=by simp[Gs,List.foldl_append]
theorem Sw (l:List UInt8) (x:ByteArray) (hl:l.length<=20000000) (hx:x.size<=15000000):(I4 l x).length<=20000000:=by
 unfold I4;split
 ·exact hl
 ·have e:x.data.toList.length=x.size:=by simp
  rw[List.length_append,e];omega
theorem Yj : ∀ (xs:List ByteArray) (l:List UInt8),l.length<=20000000->(∀ x ∈ xs,x.size<=15000000)->(Gs l xs).length<=20000000
 | [],l,hl,_=>hl
 | x::r,l,hl,h=>Yj r (I4 l x) (Sw l x hl (h x OF)) (fun y hy=>h y (by simp[hy]))
def Yb (g:Nat) (w:World) (v:Value) (xs:List ByteArray):Prop := ∃ gu uc cs,v = .slice (some (OK gu 0)) xs.length uc/\gu≠g/\w.heap[gu]? = some (.cells cs 9 (0,0))/\∀ j (h:j < xs.length),cs[j]? = some (.string xs[j])
theorem Qmf : 9≠5:=by decide
theorem Qkk (g:Nat) (l:List UInt8) (hl:l.length<=20000000) (xs:List ByteArray) (hn:xs.length<=1000) (hx:∀ x ∈ xs,x.size<=15000000) (v:Value) (w:World) (HT:Hid (Yb g w v xs)) (HA:Hid (Ao g l w)) (hg:g<=w.heap.size) :
  Calls prog 36 #[.pointer (some (OK g 0)),v] w fun e w'=>e = .returned (.tuple #[])/\Ao g (Gs l xs) w'/\Am g w w':=by
 obtain⟨r,S,D,rfl,A,L,G⟩:=HT.out;obtain⟨n,m⟩:∃ n,Hid (xs.length=n):=⟨_,rfl⟩;rw[m.out]at hn;have I:Hid (∀ j (h:j < xs.length),D[j]? = some (.string xs[j])):=G;have C:Hid (∀ x ∈ xs,x.size<=15000000):=hx;clear G hx;simp only[m.out];go_enter func36,ntmps36;go_wp2;go_loopw [8] (fun i wr => ∃ (j:Nat) (a:List UInt8),i = .int .i64 (j:Int)/\j<=n/\a=Gs l (xs.take j)/\Ao g a wr/\Am g w wr) (fun i _=>n - (intOf i).toNat);case atStart=>exact⟨0,l,rfl,by omega,by simp[Gs],HA.out,Am.refl g w⟩
 case round =>
  obtain⟨j,a,rfl,R,b,f,k⟩:=hrel;have H:a.length<=20000000:=by rw[b];exact Yj _ l hl (fun x hx=>C.out x (List.mem_of_mem_take hx))
  have y:g<=wr.heap.size:=Nat.le_trans hg k.1.size;by_cases hjn:j < n
  ·have d:j < xs.length:=(by rw[m.out];exact hjn);have t:=I.out j d;have M:=C.out xs[j] (List.getElem_mem d);have z:wr.heap[r]? = some (.cells D 9 (0,0)):=k.2 r _ L (by simpa using A) (fun c fz hcc=>by injection hcc with _ h2;exact Qmf h2);have E:xs.take j++[xs[j]]=xs.take (j+1):=(by rw[List.take_add_one,List.getElem?_eq_getElem d];rfl);have K:xs.take (j+1)++xs.drop (j+1)=xs:=List.take_append_drop _ _;have J:Hid (I4 a xs[j]=Gs l (xs.take (j+1))):=(by rw[Hid,<- E,Yi,<- b];rfl);have o:Hid (12000 < a.length->a=Gs l xs):=fun h12=>by
    have F:Gs l (xs.take j++xs.drop j)=Gs (Gs l (xs.take j)) (xs.drop j):=Yi l _ _;rw[List.take_append_drop,<- b,Vx a h12]at F;exact F.symm
   generalize xs[j]=x at *;have Q:wr.cell? (OK r j)=some (.string x):=(by rw[Lib.cell_of_heap z];exact t);clear b E K;by_cases h12:12000 < a.length
   ·have u:decide (12000 < a.length)=true:=decide_eq_true h12;have p:=o.out h12;go_wp2_with (go_at_call 15;refine(F5 true g a OC u _ f).mono ?_;rintro e B ⟨rfl,rfl⟩);exact bodyPost_ret (v:=.tuple #[]) (by simp[results,results36,go_sem]) rfl ⟨rfl,by rw[<- p];exact f,k⟩
   ·have u:decide (12000 < a.length)=false:=decide_eq_false h12;have q:Hid (a++x.data.toList=Gs l (xs.take (j+1))):=by
     have:=J.out;rw[I4,if_neg h12]at this;exact this
    go_wp2_with (first
     | (go_at_call 15;refine(F5 false g a OC u _ f).mono ?_;rintro e B ⟨rfl,rfl⟩)
     | (go_at_call 72;refine(Qbm g g (Lib.byteCells a) x _ f (by rw[Lib.byteCells_length];omega) y).mono ?_;rintro e B ⟨rfl,N,O,P⟩))
    have s:Ao g (a++x.data.toList) B:=by
     rw[Ao,Jt,<- Mv];exact .inr N
    go_roundw;case rel=>exact⟨j+1,_,by go_num,by omega,q.out,s,k.trans ⟨O,P⟩⟩
    case measure=>simp[intOf];omega
  ·have o:Hid (a=Gs l xs):=(by rw[Hid,b,List.take_of_length_le (by rw[m.out];omega)]);go_wp2;go_end0;exact⟨rfl,by rw[<- o.out];exact f,k⟩
theorem Qn3 (n:Nat) (h:n < 256):Go.bits BinOp.and IntKind.u8 (n:Int) 15=(n:Int) % 16:=by
 show IntKind.u8.wrap ((BitVec.ofInt 8 (n:Int) &&& BitVec.ofInt 8 15).toNat:Int)=_
 have a:(BitVec.ofInt 8 (n:Int)).toNat=n:=by
  rw[BitVec.ofInt_natCast,BitVec.toNat_ofNat];exact Nat.mod_eq_of_lt OC
 have b:(BitVec.ofInt 8 15).toNat=15:=by decide
 rw[BitVec.toNat_and,a,b,Nat.and_two_pow_sub_one_eq_mod n 4,IntKind.wrap_u8];omega
theorem Qdh (c:Int) (h:H3 c=false):c < 32\/(32<=c/\126 < c)\/c=34\/c=92:=by
 simp[H3]at h;omega
theorem Qh2 (c:Int) (h:H3 c=true):¬ c < 32/\¬ 126 < c/\c≠34/\c≠92:=by
 simp[H3]at h;omega
theorem Mf {T:TypeId} {g:Nat} {l:List UInt8} {b:UInt8} {w:World} {c:Int} (hc:c=(b.toNat:Int)) (h:Lib.BuilderAtF T 5 g g (.pointer (some (OK g 0))) (Lib.byteCells l++[.int .u8 c]) w):Lib.IsBuilderF T 5 g g (Lib.byteCells (l++[b])) w:=by
 rw[Gv,<- hc];exact .inr h
theorem DdPrjCx65 {P:Prop} (h:P:=by
 go_upto_region 9 with(first
  | (go_at_call 154;refine(Ju 45 Pd Rm w.heap.size w.heap.size (Lib.byteCells acc) 92 _ r (by rw[Lib.byteCells_length];omega) f).mono ?_;rintro e G ⟨rfl,n,o,E⟩))
 have d:=Mf (b:=92) rfl n
 have k:=c.trans o
 have y:=k.size
 go_upto_region 10 with(first
  | (go_at_call 154;refine(Ju 45 Pd Rm w.heap.size w.heap.size (Lib.byteCells (acc++[92])) ((Fs (s[j].toNat / 16)).toNat:Int) _ d (by rw[Lib.byteCells_length];simp;omega) y).mono ?_;rintro e V ⟨rfl,A,F,p3⟩))
 have t:=Mf (b:=Fs (s[j].toNat / 16)) rfl A
 have m:=k.trans F
 have z:=m.size
 go_upto_region 11 with fail
 go_wp2_with (first
  | (go_at_call 154;refine(Ju 45 Pd Rm w.heap.size w.heap.size (Lib.byteCells (acc++[92]++[Fs (s[j].toNat / 16)])) ((Fs (s[j].toNat % 16)).toNat:Int) _ t (by rw[Lib.byteCells_length];simp;omega) z).mono ?_;rintro e w4 ⟨rfl,T,U,q3⟩))
 go_roundw
 case rel=>exact⟨j+1,_,by go_num,by omega,g.out,Mf rfl T,m.trans U⟩
 case measure=>simp[intOf];omega
 ):P:=h
theorem Qdk (s:ByteArray) (hs:s.size<=1048576) (w:World) :
    Calls prog 140 #[.string s] w fun e w'=>e = .returned (.string (Hg s))/\Below w.heap.size w w':=by
  have q:Lib.IsBuilderF 45 5 w.heap.size w.heap.size (Lib.byteCells []) (w.alloc (.cells #[.pointer none,.slice none 0 0] 45)):=Lib.IsBuilderF.of (Lib.fresh_isBuilder 45 5 w);have u:Below w.heap.size w (w.alloc (.cells #[.pointer none,.slice none 0 0] 45)):=OP w _;go_enter func140,ntmps140;go_wp2_with (go_at_call 154;refine(Ju 45 Pd Rm w.heap.size w.heap.size (Lib.byteCells []) 34 _ q (by simp[Lib.byteCells]) OF).mono ?_;rintro e w1 ⟨rfl,R,S,k3⟩);go_loopw [9] (fun i wr => ∃ (j:Nat) (acc:List UInt8),i = .int .i64 (j:Int)/\j<=s.size/\acc=34::Lb (s.data.toList.take j)/\Lib.IsBuilderF 45 5 w.heap.size w.heap.size (Lib.byteCells acc) wr/\Below w.heap.size w wr) (fun i _=>s.size - (intOf i).toNat);case atStart=>exact⟨0,[34],rfl,by omega,by simp[Lb],Mf (l:=[]) (b:=34) rfl R,u.trans S⟩
  case round =>
    obtain⟨j,acc,rfl,hj,a,r,c⟩:=hrel;have f:=c.size;have D:acc.length<=3145729:=by
      have:=U3 (s.data.toList.take j);rw[a];simp at this |-;omega
    by_cases hjs:j < s.size
    · have v:s[j].toNat < 256:=UInt8.toNat_lt _;cases hb:H3 (s[j].toNat:Int) with
      | true =>
        have g:Hid (acc++[s[j]]=34::Lb (s.data.toList.take (j+1))):=(by rw[Hid,Sr s j hjs,a,Vr,if_pos hb];rfl);obtain⟨X,Y,Z,x4⟩:=Qh2 _ hb;have p:decide ((s[j].toNat:Int) < 32)=false:=decide_eq_false X;have B:decide (126 < (s[j].toNat:Int))=false:=decide_eq_false Y;have H:((s[j].toNat:Int) == 34)=false:=(by simpa using Z);have y4:((s[j].toNat:Int) == 92)=false:=(by simpa using x4);clear a;go_wp2_with (go_at_call 154;refine(Ju 45 Pd Rm w.heap.size w.heap.size (Lib.byteCells acc) (s[j].toNat:Int) _ r (by rw[Lib.byteCells_length];omega) f).mono ?_;rintro e G ⟨rfl,n,o,E⟩);go_roundw;case rel=>exact⟨j+1,_,by go_num,by omega,g.out,Mf rfl n,c.trans o⟩
        case measure=>simp[intOf];omega
      | false =>
        have g:Hid (acc++[92]++[Fs (s[j].toNat / 16)]++[Fs (s[j].toNat % 16)]=34::Lb (s.data.toList.take (j+1))):=(by rw[Hid,Sr s j hjs,a,Vr,if_neg (by rw[hb];decide)];simp);have I:(0:Int)<=(s[j].toNat:Int) / 16:=OC;have J:(s[j].toNat:Int) / 16 < 16:=OC;have K:(0:Int)<=(s[j].toNat:Int) % 16:=OC;have L:(s[j].toNat:Int) % 16 < 16:=OC;have M:((s[j].toNat:Int) / 16).toNat=s[j].toNat / 16:=OC;have N:((s[j].toNat:Int) % 16).toNat=s[j].toNat % 16:=OC;have C:=Qn3 s[j].toNat v;have O:∀ (h:s[j].toNat / 16 < (⟨#[48,49,50,51,52,53,54,55,56,57,97,98,99,100,101,102]⟩:ByteArray).size),(⟨#[48,49,50,51,52,53,54,55,56,57,97,98,99,100,101,102]⟩:ByteArray)[s[j].toNat / 16]'h=Fs (s[j].toNat / 16):=fun h=>Qhu _ OC h
        have Q:∀ (h:s[j].toNat % 16 < (⟨#[48,49,50,51,52,53,54,55,56,57,97,98,99,100,101,102]⟩:ByteArray).size),(⟨#[48,49,50,51,52,53,54,55,56,57,97,98,99,100,101,102]⟩:ByteArray)[s[j].toNat % 16]'h=Fs (s[j].toNat % 16):=fun h=>Qhu _ OC h
        clear a;rcases Qdh _ hb with x|⟨x,W⟩|x|x
        · have p:decide ((s[j].toNat:Int) < 32)=true:=decide_eq_true x;exact DdPrjCx65
        · have p:decide ((s[j].toNat:Int) < 32)=false:=decide_eq_false OC;have B:decide (126 < (s[j].toNat:Int))=true:=decide_eq_true W;exact DdPrjCx65
        · have p:decide ((s[j].toNat:Int) < 32)=false:=decide_eq_false OC;have B:decide (126 < (s[j].toNat:Int))=false:=decide_eq_false OC;have H:((s[j].toNat:Int) == 34)=true:=(by simpa using x);clear x;exact DdPrjCx65
        · have p:decide ((s[j].toNat:Int) < 32)=false:=decide_eq_false OC;have B:decide (126 < (s[j].toNat:Int))=false:=decide_eq_false OC;have H:((s[j].toNat:Int) == 34)=false:=OH;have y4:((s[j].toNat:Int) == 92)=true:=(by simpa using x);clear x;exact DdPrjCx65
    · have g:Hid (acc++[34]=34::Lb s.data.toList++[34]):=by
        rw[Hid,a,List.take_of_length_le OH]
      clear a;go_wp2_with (first
        | (go_at_call 154;refine(Ju 45 Pd Rm w.heap.size w.heap.size (Lib.byteCells acc) 34 _ r (by rw[Lib.byteCells_length];omega) f).mono ?_;rintro e G ⟨rfl,n,o,E⟩
           have d:=Mf (b:=34) rfl n)
        | (go_at_call 16;refine(Qaw 45 w.heap.size w.heap.size (acc++[34]) _ d OF).mono ?_;rintro e V ⟨rfl,A,F⟩))
      go_ret;exact⟨by rw[Hg,<- g.out];rfl,(c.trans o).trans A⟩
def Ax (l T l':List UInt8):Prop:=(12000 < l.length->l'=l)/\(l.length+T.length<=12000->l'=l++T)/\(12000 < l.length+T.length->12000 < l'.length)/\l'.length<=20000000
theorem Ax.trans {l T a U b:List UInt8} (h:Ax l T a) (k:Ax a U b):Ax l (T++U) b:=by
 obtain⟨g,c,i,o⟩:=h;obtain⟨f,j,m,n⟩:=k;refine⟨fun hl => ?_,fun hl => ?_,fun hl => ?_,n⟩
 ·have:=g hl;rw[f (by rw[this];exact hl),this]
 ·rw[List.length_append]at hl;have e:=c OC;rw[j (by rw[e,List.length_append];omega),e,List.append_assoc]
 ·rw[List.length_append]at hl;by_cases h5:12000 < l.length+T.length
  ·have d:=i h5;rw[f d];exact d
  ·have e:=c OC;exact m (by rw[e,List.length_append];omega)
theorem Ax.nil {l:List UInt8} (h:l.length<=20000000):Ax l [] l:=⟨fun _=>rfl,fun _=>by simp,fun h=>by simpa using h,h⟩
theorem Ax.full {l T:List UInt8} (h:l.length<=20000000) (hf:12000 < l.length):Ax l T l:=⟨fun _=>rfl,fun h=>OC,fun _=>hf,h⟩
theorem Qn2 (l:List UInt8) (x:ByteArray) (hl:l.length<=20000000) (hx:x.size<=15000000):Ax l x.data.toList (I4 l x):=by
 have e:x.data.toList.length=x.size:=by simp
 have a:=Sw l x hl hx;by_cases h:12000 < l.length
 ·have b:I4 l x=l:=by rw[I4,if_pos h]
  rw[b];exact Ax.full hl h
 ·have b:I4 l x=l++x.data.toList:=by rw[I4,if_neg h]
  rw[b]at a |-
  exact⟨fun h2=>absurd h2 h,fun _=>rfl,fun h2=>by rw[List.length_append];exact h2,a⟩
theorem Qfz : ∀ (xs:List ByteArray) (l:List UInt8),l.length<=20000000->(∀ x ∈ xs,x.size<=15000000)->Ax l (xs.flatMap (fun x=>x.data.toList)) (Gs l xs)
 | [],l,hl,_=>by simpa[Gs]using Ax.nil hl
 | x::r,l,hl,h=>by
  rw[List.flatMap_cons]
  exact(Qn2 l x hl (h x OF)).trans (Qfz r (I4 l x) (Sw l x hl (h x OF)) (fun y hy=>h y (by simp[hy])))
theorem Ax.eq {l T U l':List UInt8} (h:Ax l T l') (e:T=U):Ax l U l':=e ▸ h
theorem O6 (g:Nat) (l:List UInt8) (hl:l.length<=20000000) (xs:List ByteArray) (hn:xs.length<=1000) (hx:∀ x ∈ xs,x.size<=15000000) (v:Value) (w:World) (HT:Hid (Yb g w v xs)) (HA:Hid (Ao g l w)) (hg:g<=w.heap.size) :
  Calls prog 36 #[.pointer (some (OK g 0)),v] w fun e w' => ∃ l',e = .returned (.tuple #[])/\Ao g l' w'/\Ax l (xs.flatMap (fun x=>x.data.toList)) l'/\Am g w w':=by
 refine(Qkk g l hl xs hn hx v w HT HA hg).mono ?_;rintro e w' ⟨rfl,a,b⟩;exact⟨_,rfl,a,Qfz xs l hl hx,b⟩
theorem O7 (g:Nat) (w:World) (xs:List ByteArray) (cs:Array Value) (hg:g < w.heap.size) (hc:∀ j (h:j < xs.length),cs[j]? = some (.string xs[j])):Yb g (w.alloc (.cells cs 9)) (.slice (some (OK w.heap.size 0)) xs.length xs.length) xs :=
 ⟨w.heap.size,xs.length,cs,rfl,by omega,Cf w _,hc⟩
theorem Ao.alloc {g:Nat} {l:List UInt8} {w:World} (h:Ao g l w) (o:Obj):Ao g l (w.alloc o):=by
 have c:∀ p,Lib.BuilderAtF 47 5 g g p (Lib.byteCells l) w->Lib.BuilderAtF 47 5 g g p (Lib.byteCells l) (w.alloc o):=by
  rintro p ⟨f,v,a,b,d⟩;exact⟨f,v,(((Below.refl w.heap.size w).alloc ON o).block g (Array.getElem?_eq_some_iff.1 a).1).trans a,b.alloc o,d⟩
 rcases h with h|h
 ·exact .inl (c _ h)
 ·exact .inr (c _ h)
theorem Ao.lt {g:Nat} {l:List UInt8} {w:World} (h:Ao g l w):g < w.heap.size:=by
 rcases h with⟨_,v,a,_⟩|⟨_,v,a,_⟩ <;> exact(Array.getElem?_eq_some_iff.1 a).1
theorem Am.alloc {g:Nat} {w w':World} (h:Am g w w') (hg:g<=w.heap.size) (o:Obj):Am g w (w'.alloc o):=⟨h.1.alloc (Nat.le_trans hg h.1.size) o,h.2.alloc o⟩
def C1 (g:Nat) (w0:World) (v:Value) (T:List UInt8):Prop :=
 ∀ (w:World) (l:List UInt8),Below g w0 w->l.length<=20000000->Ao g l w->Calls prog 111 #[.pointer (some (OK g 0)),v] w fun e w' => ∃ l',e = .returned (.tuple #[])/\Ao g l' w'/\Ax l T l'/\Am g w w'
def Lj (k:Int) (T:List UInt8):List UInt8:=if k=6 then [40]++T++[41] else T
theorem Qpr (g:Nat) (w:World) (x:ByteArray) (hg:g < w.heap.size):Yb g (w.alloc (.cells #[.string x] 9)) (.slice (some (OK w.heap.size 0)) 1 1) [x] :=
 O7 g w [x] #[.string x] hg (fun j h=>by
  have:j=0:=by simp at h;exact h
  subst this;rfl)
theorem Cu (g:Nat) (l:List UInt8) (hl:l.length<=20000000) (x:ByteArray) (hx:x.size<=15000000) (w:World) (hA:Ao g l w) :
  Calls prog 36 #[.pointer (some (OK g 0)),.slice (some (OK w.heap.size 0)) 1 1] (w.alloc (.cells #[.string x] 9)) fun e w' => ∃ a,e = .returned (.tuple #[])/\Ao g a w'/\Ax l x.data.toList a/\Am g w w':=by
 have f:=hA.lt;refine(O6 g l hl [x] OF (by simpa using hx) _ _ (Qpr g w x f) (hA.alloc _) OH).mono ?_;rintro e w' ⟨a,rfl,b,c,d⟩;exact⟨a,rfl,b,c.eq OF,(Am.alloc (Am.refl g w) OC _).trans d⟩
theorem Qbj (g:Nat) (w0:World) (o:Int) (t1 t2:TypeId) (y1 y2:Value) (T:List UInt8) (l:List UInt8) (hl:l.length<=20000000) (HV:Hid (C1 g w0 (.iface 181 (.agg #[.int .i64 o,.iface t1 y1,.iface t2 y2])) T)) (w:World) (HW:Hid (Below g w0 w)) (HA:Hid (Ao g l w)) :
  Calls prog 142 #[.pointer (some (OK g 0)),.iface 181 (.agg #[.int .i64 o,.iface t1 y1,.iface t2 y2])] w fun e w' => ∃ l',e = .returned (.tuple #[])/\Ao g l' w'/\Ax l ([40]++T++[41]) l'/\Am g w w':=by
 have t:=Tryz.ta_binNode 181 (.agg #[.int .i64 o,.iface t1 y1,.iface t2 y2]);simp only[if_true]at t;obtain⟨U,u⟩:∃ U,Hid ([40]++T++[41]=U):=⟨[40]++T++[41],(rfl:[40]++T++[41]=_)⟩;rw[u.out];have v:=HA.out.lt;have a:∀ ob:Obj,Ao g l (w.alloc ob):=fun ob=>HA.out.alloc ob
 have d:∀ ob:Obj,Am g w (w.alloc ob):=fun ob=>Am.alloc (Am.refl g w) OC ob
 go_enter func142,ntmps142;go_upto_region 3 with fail
 generalize hW1:w.alloc _=W1;have h:Ao g l W1:=by rw[<- hW1];exact a _
 have r:Am g w W1:=by rw[<- hW1];exact d _
 clear hW1 a d;go_upto_region 4 with(first
  | (go_at_call 36;refine(Cu g l hl ⟨#[40]⟩ OD _ h).mono ?_;rintro e A ⟨x,rfl,i,b,n⟩))
 have f:=r.trans n;go_upto_region 5 with(first
  | (go_at_call 111;refine(HV.out _ x (HW.out.trans f.1) b.2.2.2 i).mono ?_;rintro e B ⟨y,rfl,j,c,p⟩))
 have s:=f.trans p;go_wp2_with (first
  | (go_at_call 36;refine(Cu g y c.2.2.2 ⟨#[41]⟩ OD _ j).mono ?_;rintro e C ⟨z,rfl,k,m,q⟩))
 go_end0;exact⟨z,rfl,k,((b.trans c).trans m).eq (by rw[<- u.out]),s.trans q⟩
theorem Yf (g:Nat) (w0:World) (t:TypeId) (ht:t≠181) (x:Value) (T:List UInt8) (l:List UInt8) (hl:l.length<=20000000) (HV:Hid (C1 g w0 (.iface t x) T)) (w:World) (HW:Hid (Below g w0 w)) (HA:Hid (Ao g l w)) :
  Calls prog 142 #[.pointer (some (OK g 0)),.iface t x] w fun e w' => ∃ l',e = .returned (.tuple #[])/\Ao g l' w'/\Ax l T l'/\Am g w w':=by
 have h:=Tryz.ta_binNode t x;simp only[if_neg ht]at h;have i:=HA.out.lt;have b:Hid (∀ ob:Obj,Ao g l (w.alloc ob)):=fun ob=>HA.out.alloc ob
 have a:Hid (∀ ob:Obj,Am g w (w.alloc ob)):=fun ob=>Am.alloc (Am.refl g w) OC ob
 go_enter func142,ntmps142;go_wp2_with (first
  | (go_at_call 111;refine(HV.out _ l (HW.out.trans (a.out _).1) hl (b.out _)).mono ?_;rintro e k ⟨j,rfl,c,d,f⟩))
 exact bodyPost_ret (v:=.tuple #[]) (by simp[results,results142,go_sem]) rfl ⟨j,rfl,c,d,(a.out _).trans f⟩
def Kv (g:Nat) (w:World) (v:Value) (us:List Value):Prop := ∃ ua uc,v = .slice ua us.length uc/\∀ j (h:j < us.length),∃ gu o,ua=some (OK gu o)/\∀ w',Am g w w'->w'.cell? (OK gu (o+j))=some us[j]
theorem Kv.fr {g:Nat} {w w':World} {v:Value} {us:List Value} (h:Kv g w v us) (hf:Am g w w'):Kv g w' v us:=by
 obtain⟨i,k,d,f⟩:=h;refine⟨i,k,d,fun j hjl => ?_⟩;obtain⟨a,o,b,c⟩:=f j hjl;exact⟨a,o,b,fun w2 h3=>c w2 (hf.trans h3)⟩
theorem Un (g:Nat) (w0:World) (v:Value) (us:List Value) (xs:List ByteArray) (hlen:xs.length=us.length) (hn:us.length<=100000) (l:List UInt8) (hl:l.length<=20000000) (w:World) (HR:Hid (Kv g w v us))
    (HV:Hid (∀ j (h:j < us.length) (h':j < xs.length),C1 g w0 us[j] xs[j].data.toList)) (HW:Hid (Below g w0 w)) (HA:Hid (Ao g l w)) :
    Calls prog 144 #[.pointer (some (OK g 0)),v] w fun e w' => ∃ l',e = .returned (.tuple #[])/\Ao g l' w'/\Ax l (B6 xs) l'/\Am g w w':=by
  obtain⟨P,S,rfl,c⟩:=HR.out;have L:Hid (∀ j (h:j < us.length),∃ C o,P=some (OK C o)/\∀ w',Am g w w'->w'.cell? (OK C (o+j))=some us[j]):=c;clear c HR;obtain⟨n,A⟩:∃ n,Hid (us.length=n):=⟨us.length,(rfl:us.length=_)⟩;rw[A.out]at hn hlen;simp only[A.out];go_enter func144,ntmps144;go_wp2;go_loopw [8] (fun i wr => ∃ (j:Nat) (d:List UInt8),i = .int .i64 (j:Int)/\j<=n/\Ao g d wr/\Ax l (B6 (xs.take j)) d/\Am g w wr) (fun i _=>n - (intOf i).toNat);case atStart=>exact⟨0,l,rfl,by omega,HA.out,(Ax.nil hl).eq (by simp[B6]),Am.refl g w⟩
  case round =>
    obtain⟨j,d,rfl,R,D,m,q⟩:=hrel;have z:=m.2.2.2;by_cases hjn:j < n
    · have t:j < us.length:=(by rw[A.out];exact hjn);have y:j < xs.length:=OC;obtain⟨C,o,rfl,a⟩:=L.out j t;have M:=a wr q;have K:=HV.out j t y;have s:=Nu (xs.take j) xs[j];have J:xs.take j++[xs[j]]=xs.take (j+1):=(by rw[List.take_add_one,List.getElem?_eq_getElem y];rfl);rw[J]at s;generalize xs[j]=x at *;generalize us[j]=u at *;have I:Hid (C1 g w0 u x.data.toList):=K;clear K a J;by_cases c:j=0
      · subst c;simp only[Nat.add_zero]at M;have p:Hid (Ax l [] d):=m.eq (by simp[B6]);have B:Hid ([]++x.data.toList=B6 (xs.take (0+1))):=(by rw[Hid,s];simp);clear m s;go_wp2_with (first
          | (go_at_call 111;refine(I.out _ d (HW.out.trans q.1) z D).mono ?_;rintro e Q ⟨H,rfl,f,b,k⟩))
        go_roundw;case rel=>exact⟨0+1,H,by go_num,by omega,f,(p.out.trans b).eq B.out,q.trans k⟩
        case measure=>simp[intOf];omega
      · have B:Hid (B6 (xs.take j)++[44,32]++x.data.toList=B6 (xs.take (j+1))):=by
          rw[Hid,s,if_neg (by
            intro h
            have:=congrArg List.length h
            rw[List.length_take]at this
            simp only[List.length_nil]at this
            omega)]
        have N:0 < j:=OC;have p:Hid (Ax l (B6 (xs.take j)) d):=m;clear m s;go_wp2_with (first
          | (go_at_call 36;refine(Cu g d z ⟨#[44,32]⟩ OD _ D).mono ?_;rintro e Q ⟨H,rfl,f,b,k⟩
             have r:=q.trans k)
          | (go_at_call 111;refine(I.out _ H (HW.out.trans r.1) b.2.2.2 f).mono ?_;rintro e T ⟨O,rfl,E,F,G⟩))
        go_roundw;case rel=>exact⟨j+1,O,by go_num,by omega,E,((p.out.trans b).trans F).eq B.out,r.trans G⟩
        case measure=>simp[intOf];omega
    · have p:Hid (Ax l (B6 xs) d):=m.eq (by rw[List.take_of_length_le OC]);go_wp2;go_end0;exact⟨d,rfl,D,p.out,q⟩
theorem Sx (g:Nat) (l:List UInt8) (hl:l.length<=20000000) (x y:ByteArray) (hx:x.size<=15000000) (hy:y.size<=15000000) (w:World) (hA:Ao g l w) :
  Calls prog 36 #[.pointer (some (OK g 0)),.slice (some (OK w.heap.size 0)) 2 2] (w.alloc (.cells #[.string x,.string y] 9)) fun e w' => ∃ a,e = .returned (.tuple #[])/\Ao g a w'/\Ax l (x.data.toList++y.data.toList) a/\Am g w w':=by
 have f:=hA.lt;refine(O6 g l hl [x,y] OF (by simp[hx,hy]) _ _ (O7 g w [x,y] #[.string x,.string y] f (fun j h=>by
  have:j=0\/j=1:=by simp at h;omega
  rcases this with rfl|rfl <;> rfl)) (hA.alloc _) OH).mono ?_
 rintro e w' ⟨a,rfl,b,c,d⟩;exact⟨a,rfl,b,c.eq OF,(Am.alloc (Am.refl g w) OC _).trans d⟩
theorem Yh (g:Nat) (l:List UInt8) (hl:l.length<=20000000) (x y z:ByteArray) (hx:x.size<=15000000) (hy:y.size<=15000000) (hz:z.size<=15000000) (w:World) (hA:Ao g l w) :
  Calls prog 36 #[.pointer (some (OK g 0)),.slice (some (OK w.heap.size 0)) 3 3] (w.alloc (.cells #[.string x,.string y,.string z] 9)) fun e w' => ∃ a,e = .returned (.tuple #[])/\Ao g a w'/\Ax l (x.data.toList++y.data.toList++z.data.toList) a/\Am g w w':=by
 have f:=hA.lt;refine(O6 g l hl [x,y,z] OF (by simp[hx,hy,hz]) _ _ (O7 g w [x,y,z] #[.string x,.string y,.string z] f (fun j h=>by
  have:j=0\/j=1\/j=2:=by simp at h;omega
  rcases this with rfl|rfl|rfl <;> rfl)) (hA.alloc _) OH).mono ?_
 rintro e w' ⟨a,rfl,b,c,d⟩;exact⟨a,rfl,b,c.eq OF,(Am.alloc (Am.refl g w) OC _).trans d⟩
theorem Qc (g:Nat) (w0:World) (word:ByteArray) (hword:word.size<=15000000) (v:Value) (us:List Value) (xs:List ByteArray) (hlen:xs.length=us.length) (hn:us.length<=100000) (l:List UInt8) (hl:l.length<=20000000) (w:World) (HR:Hid (Kv g w v us))
  (HV:Hid (∀ j (h:j < us.length) (h':j < xs.length),C1 g w0 us[j] xs[j].data.toList)) (HW:Hid (Below g w0 w)) (HA:Hid (Ao g l w)) :
  Calls prog 143 #[.pointer (some (OK g 0)),.string word,v] w fun e w' => ∃ l',e = .returned (.tuple #[])/\Ao g l' w'/\Ax l (Ec word xs).data.toList l'/\Am g w w':=by
 have p:Hid (word.data.toList++[40]++B6 xs++[41]=(Ec word xs).data.toList):=by
  rw[Hid,Ec,Gq];simp[ByteArray.data_append]
 have d:=HA.out;go_enter func143,ntmps143;go_upto_region 1 with(first
  | (go_at_call 36;refine(Sx g l hl word ⟨#[40]⟩ hword OD _ d).mono ?_;rintro e t ⟨q,rfl,f,b,a⟩))
 go_upto_region 2 with(first
  | (go_at_call 144;refine(Un g w0 v us xs hlen hn q b.2.2.2 _ (HR.out.fr a) HV (HW.out.trans a.1) f).mono ?_;rintro e u ⟨r,rfl,i,c,n⟩))
 go_wp2_with (first
  | (go_at_call 36;refine(Cu g r c.2.2.2 ⟨#[41]⟩ OD _ i).mono ?_;rintro e x ⟨s,rfl,k,m,o⟩))
 go_end0;exact⟨s,rfl,k,((b.trans c).trans m).eq p.out,(a.trans n).trans o⟩
structure E0 (g:Nat) (w:World):Prop where
 type:∀ t:Nat,t<=10->w.cell? (OK 0 t)=some (.string (Ag (t:Int)))
 un:∀ t:Nat,1<=t->t<=3->w.cell? (OK 3 t)=some (.string (E3 (t:Int)))
 bin:∀ t:Nat,1<=t->t<=18->w.cell? (OK 4 (t * 2))=some (.string (C0 (t:Int)))
 built:∀ t:Nat,1<=t->t<=12->w.cell? (OK 2 (t * 2))=some (.string (Av (t:Int)))
 lt:0 < g/\3 < g/\4 < g/\2 < g
theorem E0.below {g:Nat} {w w':World} (h:E0 g w) (hb:Below g w w'):E0 g w' :=
 ⟨fun t ht=>(hb.cell (p:=(OK 0 t)) h.lt.1).trans (h.type t ht),fun t h1 ht=>(hb.cell (p:=(OK 3 t)) h.lt.2.1).trans (h.un t h1 ht),fun t h1 ht=>(hb.cell (p:=(OK 4 (t * 2))) h.lt.2.2.1).trans (h.bin t h1 ht),fun t h1 ht=>(hb.cell (p:=(OK 2 (t * 2))) h.lt.2.2.2).trans (h.built t h1 ht),h.lt⟩
theorem C5 (g:Nat) (l:List UInt8) (hl:l.length<=20000000) (x:ByteArray) (hx:x.size<=15000000) (w:World) (b:Nat) (hb:w.heap.size=b) (hA:Ao g l w) :
  Calls prog 36 #[.pointer (some (OK g 0)),.slice (some (OK b 0)) 1 1] (w.alloc (.cells #[.string x] 9)) fun e w' => ∃ l',e = .returned (.tuple #[])/\Ao g l' w'/\Ax l x.data.toList l'/\Am g w w':=by
 subst hb;exact Cu g l hl x hx w hA
theorem Am.alloc1 {g:Nat} {w w':World} (h:Am g w w') (hg:g < w.heap.size) (o:Obj):Am g w (w'.alloc o):=h.alloc OC o
theorem Qdn (g:Nat) (v:Value) (T:List UInt8) (l:List UInt8) (hl:l.length<=20000000) (hf:12000 < l.length) (w:World) (hA:Ao g l w) :
  Calls prog 111 #[.pointer (some (OK g 0)),v] w fun e w' => ∃ l',e = .returned (.tuple #[])/\Ao g l' w'/\Ax l T l'/\Am g w w':=by
 go_enter func111,ntmps111;go_wp2_with (go_at_call 15;refine(F5 true g l OC (decide_eq_true hf) _ hA).mono ?_;rintro e a ⟨rfl,rfl⟩);exact bodyPost_ret (v:=.tuple #[]) (by simp[results,results111,go_sem]) rfl ⟨l,rfl,hA,Ax.full hl hf,Am.refl g w⟩
theorem Wr (g:Nat) (l:List UInt8) (hl:l.length<=20000000) (hf:¬ 12000 < l.length) (x:ByteArray) (hx:x.size<=15000000) (w:World) (HA:Hid (Ao g l w)) :
  Calls prog 111 #[.pointer (some (OK g 0)),.iface 177 (.agg #[.string x])] w fun e w' => ∃ l',e = .returned (.tuple #[])/\Ao g l' w'/\Ax l (x.data.toList) l'/\Am g w w':=by
 have f:=HA.out.lt;have a:=HA.out;have h:∀ ww:World,_:=Tryz.ta_intNode 177 (.agg #[.string x]);simp only[if_neg (show ¬ (177=171) by decide)]at h;have i:∀ ww:World,_:=Tryz.ta_textNode 177 (.agg #[.string x]);simp only[if_neg (show ¬ (177=173) by decide)]at i;have j:∀ ww:World,_:=Tryz.ta_boolNode 177 (.agg #[.string x]);simp only[if_neg (show ¬ (177=175) by decide)]at j;have k:∀ ww:World,_:=Tryz.ta_nameNode 177 (.agg #[.string x]);simp only[if_true]at k;go_enter func111,ntmps111;go_wp2_with (first
  | (go_at_call 15;refine(F5 false g l OC (decide_eq_false hf) _ a).mono ?_;rintro e n ⟨rfl,rfl⟩)
  | (go_at_call 36;refine(C5 g l hl x hx (w.alloc _) (w.heap.size+1) OF (HA.out.alloc _)).mono ?_;rintro e o ⟨m,rfl,b,c,d⟩))
 go_end0;exact⟨m,rfl,b,c,(Am.alloc1 (Am.refl g w) f _).trans d⟩
end Go.Proofs.YtjlaedokfbcbpaaGreatDoor
