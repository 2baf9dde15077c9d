import Derived.Test.YtahibkjkpmdhgaaGreatDoorKTk
import Derived.Lib.ConvBytes
import Derived.Test.YtahibkjkpmdhgaaGreatDoorKCdN
set_option maxRecDepth 100000
set_option maxHeartbeats 2000000
namespace Go.Proofs.YtahibkjkpmdhgaaGreatDoor
open Go.RowKit
theorem Pm {B:Nat} {a w:World} (n:Nat) (h:Below B a w):Below B a (w.drewN n):=⟨h.os,h.tape,h.output,h.size,h.block⟩
def Gp (a b:List UInt8):List UInt8:=List.zipWith (fun x y=>if x=y then x else 0) a b
theorem Rs : ∀ a:List UInt8,Gp a a=a
 | []=>rfl
 | x::r=>by
  have h:=Rs r
  unfold Gp at h |-
  simp
theorem Wg (a b:ByteArray) (h:a.size=b.size) (hs:a.size<=1048576) (w:World) :
  Calls Tryz.prog 172 #[.string a,.string b] w fun e w'=>e = .returned (.string ⟨(Gp a.data.toList b.data.toList).toArray⟩)/\OH w w':=by
 have r:Hid (a.size=b.size):=h;clear h;by_cases hab:a=b
 ·subst hab;rw[Rs];go_enter Tryz.func172,Tryz.ntmps172;go_wp2;go_ret;exact⟨rfl,Below.refl _ _⟩
 ·have R:(a.toList == b.toList)=false:=by
   cases hx:a.toList == b.toList with
   | false=>rfl
   | true =>
    have e:a.toList=b.toList:=(by simpa using hx);rw[ByteArray.toList_eq,ByteArray.toList_eq]at e;have f:a.data=b.data:=Array.toList_inj.1 e;exact(hab (by cases a;cases b;simp at f;rw[f])).elim
  clear hab;have q:=Lib.run_convert_string_bytes (P:=Tryz.prog) w 9 159 5 a Tryz.underlying9 Tryz.underlying159 Tryz.underlying5;obtain⟨G,g⟩:∃ W,Lib.bytesWorld w 5 a=W:=⟨_,rfl⟩;rw[g]at q;obtain⟨H,v⟩:∃ H,grownCap w a.size 0 5=H:=⟨_,rfl⟩;rw[v]at q;go_enter Tryz.func172,Tryz.ntmps172;go_wp2;obtain⟨n,T⟩:∃ n,Hid (a.size=n):=⟨_,(rfl:a.size=_)⟩;have E:Hid (∀ j,j < a.size->G.cell? (OK w j)=some (.int .u8 ((a.data.toList.getD j 0).toNat:Int))/\G.frozen? (OK w j)=false):=fun j hj=>by
   rw[<- g];refine⟨Lib.bytesWorld_cell w _ a j hj, ?_⟩;have S:a.size<=(Lib.bytesCells w 5 a).size:=(by simp[Lib.bytesCells]);simp[World.frozen?,Lib.bytesWorld_at_new];omega
  have D:Hid (OH w G):=by
   rw[Hid,<- g];exact⟨rfl,rfl,rfl,by rw[Lib.bytesWorld_size];omega,fun k hk=>Lib.bytesWorld_at_old w _ a k hk⟩
  clear g q v;go_loopw [15] (fun t wr => ∃ i:Nat,i<=a.size/\t = .int .i64 (i:Int)/\OH w wr/\∀ j,j < a.size->wr.cell? (OK w j)=some (.int .u8 ((if j < i then (Gp a.data.toList b.data.toList).getD j 0 else a.data.toList.getD j 0).toNat:Int))/\wr.frozen? (OK w j)=false) (fun t _=>a.size - (intOf t).toNat);case atStart=>exact⟨0,by omega,rfl,D.out,fun j hj=>by rw[if_neg Ou];exact E.out j hj⟩
  case round =>
   obtain⟨i,X,rfl,u,z⟩:=hrel;have m:Hid (OH w wr):=u;have d:Hid (∀ j,j < a.size->wr.cell? (OK w j)=some (.int .u8 ((if j < i then (Gp a.data.toList b.data.toList).getD j 0 else a.data.toList.getD j 0).toNat:Int))/\wr.frozen? (OK w j)=false):=z;clear u z;by_cases hlt:i < a.size
   ·have A:(i:Int) < (a.size:Int):=Ou;have B:i < b.size:=(by rw[<- r.out];exact hlt);have L:(i:Int) < (b.size:Int):=Ou;obtain⟨C,V⟩:=d.out i hlt;rw[if_neg Ou]at C;obtain⟨x,N⟩:∃ x,Hid (a.data.toList.getD i 0=x):=⟨_,(rfl:a.data.toList.getD i 0=_)⟩;rw[N.out]at C;have l:Hid ((Gp a.data.toList b.data.toList).getD i 0=if x=b[i] then x else 0):=by
     have c:i < a.data.toList.length:=(by simpa using hlt);have s:i < b.data.toList.length:=(by simpa using B);rw[Hid,<- N.out];unfold Gp;rw[List.getD_eq_getElem?_getD,List.getElem?_zipWith,List.getD_eq_getElem?_getD,List.getElem?_eq_getElem c,List.getElem?_eq_getElem s];rfl
    obtain⟨y,O⟩:∃ y,Hid (b[i]=y):=⟨_,(rfl:b[i]=_)⟩;rw[O.out]at l;have Y:=O.out;by_cases hxy:x=y
    ·have M:(((x.toNat:Nat):Int) != ((y.toNat:Nat):Int))=false:=(by simp[hxy]);have o:Hid (∀ j,j < a.size->wr.cell? (OK w j)=some (.int .u8 ((if j < i+1 then (Gp a.data.toList b.data.toList).getD j 0 else a.data.toList.getD j 0).toNat:Int))/\wr.frozen? (OK w j)=false):=fun j hj=>by
      obtain⟨c,s⟩:=d.out j hj;refine⟨?_,s⟩;by_cases e:j=i
      ·subst e;rw[if_pos Ou,l.out,if_pos hxy];exact C
      ·by_cases f:j < i
       ·rw[if_pos Ou];rw[if_pos f]at c;exact c
       ·rw[if_neg Ou];rw[if_neg f]at c;exact c
     clear hxy;go_wp2;go_quiet (fail);go_wp2;go_roundw;case rel=>exact⟨i+1,by omega,by go_num,Pm _ m.out,o.out⟩
     case measure=>simp[intOf];omega
    ·have M:(((x.toNat:Nat):Int) != ((y.toNat:Nat):Int))=true:=by
      have:x.toNat≠y.toNat:=fun e=>hxy (UInt8.toNat_inj.1 e)
      simp;omega
     have o:Hid (∀ j,j < a.size->(wr.setCell (OK w i) (.int .u8 0)).cell? (OK w j)=some (.int .u8 ((if j < i+1 then (Gp a.data.toList b.data.toList).getD j 0 else a.data.toList.getD j 0).toNat:Int))/\(wr.setCell (OK w i) (.int .u8 0)).frozen? (OK w j)=false):=fun j hj=>by
      obtain⟨c,s⟩:=d.out j hj;refine⟨?_,by rw[World.frozen?_setCell];exact s⟩;by_cases e:j=i
      ·subst e;rw[if_pos Ou,l.out,if_neg hxy,World.cell?_setCell_same (w:=wr) (h:=C)];rfl
      ·rw[World.cell?_setCell_other (w:=wr) (h:=(by intro h;injection h with _ h;exact e h.symm))];by_cases f:j < i
       ·rw[if_pos Ou];rw[if_pos f]at c;exact c
       ·rw[if_neg Ou];rw[if_neg f]at c;exact c
     clear hxy;go_wp2;go_quiet (fail);go_wp2;go_roundw;case rel=>exact⟨i+1,by omega,by go_num,(Pm _ m.out).setCell (p:=(OK w i)) (Nat.le_refl _) _,o.out⟩
     case measure=>simp[intOf];omega
   ·have J:i=a.size:=Ou;have Q:Hid (∀ j (hj:j < (Gp a.data.toList b.data.toList).length),wr.cell? (((OK w 0):Addr).add j)=some (.int .u8 ((Gp a.data.toList b.data.toList)[j].toNat:Int))):=fun j hj=>by
     have K:j < a.size:=by
      have:(Gp a.data.toList b.data.toList).length<=a.data.toList.length:=(by unfold Gp;rw[List.length_zipWith];exact Nat.min_le_left _ _);have e:a.data.toList.length=a.size:=OB;omega
     have c:=(d.out j K).1;rw[if_pos Ou,List.getD_eq_getElem?_getD,List.getElem?_eq_getElem hj]at c;by_cases j0:j=0
     ·subst j0;simpa[Addr.add]using c
     ·simpa[Addr.add,j0]using c
    have F:Hid ((Gp a.data.toList b.data.toList).length=a.size):=by
     rw[Hid];unfold Gp;rw[List.length_zipWith];have U:a.data.toList.length=a.size:=OB;have f:b.data.toList.length=b.size:=OB;have:=r.out;omega
    have A:¬ (i:Int) < (a.size:Int):=Ou;have I:=run_convert_bytes_back (P:=Tryz.prog) wr 159 9 5 (OK w 0) H (Gp a.data.toList b.data.toList) Tryz.underlying159 Tryz.underlying5 Tryz.underlying9 Q.out;rw[F.out]at I;clear J;go_wp2;go_ret;exact⟨rfl,m.out⟩
def Bt (l:List Int):ByteArray:=⟨(l.map (fun z=>UInt8.ofNat z.toNat)).toArray⟩
def F6 (l:List Int):Prop := ∀ t ∈ l,0<=t/\t<=10
def Hi : Am->Prop
 | .known s k=>F6 s/\F6 k
 | _=>True
def A7 (st:Int) (s k:ByteArray):Value:=.agg #[.int .i64 st,.string s,.string k]
def H6 : Am->Value
 | .none=>A7 0 ⟨#[]⟩ ⟨#[]⟩
 | .known s k=>A7 1 (Bt s) (Bt k)
 | .clash=>A7 2 ⟨#[]⟩ ⟨#[]⟩
theorem Ck (l:List Int):(Bt l).size=l.length:=by simp[Bt,ByteArray.size]
theorem Rv {x y:Int} (hx:0<=x/\x<=10) (hy:0<=y/\y<=10) (h:UInt8.ofNat x.toNat=UInt8.ofNat y.toNat):x=y:=by
 have a:=congrArg UInt8.toNat h;simp at a;omega
theorem X9 : ∀ {k l:List Int},F6 k->F6 l->(k.map (fun z=>UInt8.ofNat z.toNat))=(l.map (fun z=>UInt8.ofNat z.toNat))->k=l
 | [],[],_,_,_=>rfl
 | [],_::_,_,_,h=>by simp at h
 | _::_,[],_,_,h=>by simp at h
 | x::r,y::r',h1,h2,h=>by
  simp only[List.map_cons,List.cons.injEq]at h
  rw[Rv (h1 x OB) (h2 y OB) h.1,X9 (fun t ht=>h1 t (by simp[ht])) (fun t ht=>h2 t (by simp[ht])) h.2]
theorem P6 {k l:List Int} (hk:F6 k) (hl:F6 l):((Bt k).toList == (Bt l).toList)=decide (k=l):=by
 rw[ByteArray.toList_eq,ByteArray.toList_eq];by_cases e:k=l
 ·subst e;simp
 ·have:¬ (Bt k).data.toList=(Bt l).data.toList:=fun h=>e (X9 hk hl (by simpa[Bt]using h))
  have a:¬ (Bt k).data=(Bt l).data:=fun h=>this (by rw[h])
  simp[e,a]
theorem X8 : ∀ {s t:List Int},F6 s->F6 t->Gp (Bt s).data.toList (Bt t).data.toList=(Be s t).map (fun z=>UInt8.ofNat z.toNat)
 | [],t,_,_=>by simp[Gp,Bt,Be]
 | _::_,[],_,_=>by simp[Gp,Bt,Be]
 | x::r,y::r',h1,h2=>by
  have a:=X8 (s:=r) (t:=r') (fun t ht=>h1 t (by simp[ht])) (fun t ht=>h2 t (by simp[ht]))
  unfold Gp Bt Be at a |-
  simp only[List.map_cons,List.zipWith_cons_cons,List.cons.injEq]at a |-
  refine⟨?_,a⟩
  by_cases e:x=y
  ·subst e;simp
  ·have:¬ UInt8.ofNat x.toNat=UInt8.ofNat y.toNat:=fun h=>e (Rv (h1 x OB) (h2 y OB) h)
   rw[if_neg this,if_neg e];rfl
theorem Qeu (s1 k1 s2 k2:ByteArray) (w:World) :
  Calls Tryz.prog 153 #[A7 0 s1 k1,A7 1 s2 k2] w fun e w'=>e = .returned (A7 1 s2 k2)/\OH w w':=by
 obtain⟨r,k⟩:∃ Y,w.alloc (.cells #[.int .i64 0,.string s1,.string k1] 150)=Y:=⟨_,rfl⟩;have p:OH w r:=by rw[<- k];exact Ao w _
 have t:r.heap.size=w.heap.size+1:=by rw[<- k];exact World.size_alloc _ _
 have h:r.heap[w.heap.size]? = some (.cells #[.int .i64 0,.string s1,.string k1] 150):=by rw[<- k];exact Ae w _
 obtain⟨l,g⟩:∃ Y,r.alloc (.cells #[.int .i64 1,.string s2,.string k2] 150)=Y:=⟨_,rfl⟩;have q:OH w l:=by rw[<- g];exact Ab p _
 have u:l.heap.size=w.heap.size+2:=by rw[<- g,World.size_alloc];omega
 have i:l.heap[w.heap.size]? = some (.cells #[.int .i64 0,.string s1,.string k1] 150):=by rw[<- g];exact Ak _ h
 have j:l.heap[w.heap.size+1]? = some (.cells #[.int .i64 1,.string s2,.string k2] 150):=by rw[<- g,<- t];exact Ae _ _
 clear h;obtain⟨b,f⟩:∃ Y,l.alloc (.cells #[.int .i64 0,.string ⟨#[]⟩,.string ⟨#[]⟩] 150)=Y:=⟨_,rfl⟩;have s:OH w b:=by rw[<- f];exact Ab q _
 have G:b.heap.size=w.heap.size+3:=by rw[<- f,World.size_alloc];omega
 have c:b.heap[w.heap.size]? = some (.cells #[.int .i64 0,.string s1,.string k1] 150):=by rw[<- f];exact Ak _ i
 have d:b.heap[w.heap.size+1]? = some (.cells #[.int .i64 1,.string s2,.string k2] 150):=by rw[<- f];exact Ak _ j
 have a:b.heap[w.heap.size+2]? = some (.cells #[.int .i64 0,.string ⟨#[]⟩,.string ⟨#[]⟩] 150):=by rw[<- f,<- u];exact Ae _ _
 clear i j;have x:b.cell? (OK w 0)=some (.int .i64 0):=by rw[Lib.cell_of_heap c];rfl
 have y:b.cell? (OK w 1)=some (.string s1):=by rw[Lib.cell_of_heap c];rfl
 have z:b.cell? (OK w 2)=some (.string k1):=by rw[Lib.cell_of_heap c];rfl
 have A:b.cell? (OJ w 1 0)=some (.int .i64 1):=by rw[Lib.cell_of_heap d];rfl
 have B:b.cell? (OJ w 1 1)=some (.string s2):=by rw[Lib.cell_of_heap d];rfl
 have C:b.cell? (OJ w 1 2)=some (.string k2):=by rw[Lib.cell_of_heap d];rfl
 have m:b.cell? (OJ w 2 0)=some (.int .i64 0):=by rw[Lib.cell_of_heap a];rfl
 have n:b.cell? (OJ w 2 1)=some (.string ⟨#[]⟩):=by rw[Lib.cell_of_heap a];rfl
 have o:b.cell? (OJ w 2 2)=some (.string ⟨#[]⟩):=by rw[Lib.cell_of_heap a];rfl
 have D:b.frozen? (OJ w 2 0)=false:=by simp[World.frozen?,a]
 have E:b.frozen? (OJ w 2 1)=false:=by simp[World.frozen?,a]
 have F:b.frozen? (OJ w 2 2)=false:=by simp[World.frozen?,a]
 clear c d a p q;unfold A7;go_enter Tryz.func153,Tryz.ntmps153;go_wp2_with fail;exact bodyPost_ret (v:=A7 1 s2 k2) (by simp[results,Tryz.results153,go_sem,m,n,o,A7]) rfl ⟨rfl,Ad (Ad (Ad s 2 0 _) 2 1 _) 2 2 _⟩
theorem Qev (s1 k1 s2 k2:ByteArray) (w:World) :
  Calls Tryz.prog 153 #[A7 0 s1 k1,A7 2 s2 k2] w fun e w'=>e = .returned (A7 2 s2 k2)/\OH w w':=by
 obtain⟨r,k⟩:∃ Y,w.alloc (.cells #[.int .i64 0,.string s1,.string k1] 150)=Y:=⟨_,rfl⟩;have p:OH w r:=by rw[<- k];exact Ao w _
 have t:r.heap.size=w.heap.size+1:=by rw[<- k];exact World.size_alloc _ _
 have h:r.heap[w.heap.size]? = some (.cells #[.int .i64 0,.string s1,.string k1] 150):=by rw[<- k];exact Ae w _
 obtain⟨l,g⟩:∃ Y,r.alloc (.cells #[.int .i64 2,.string s2,.string k2] 150)=Y:=⟨_,rfl⟩;have q:OH w l:=by rw[<- g];exact Ab p _
 have u:l.heap.size=w.heap.size+2:=by rw[<- g,World.size_alloc];omega
 have i:l.heap[w.heap.size]? = some (.cells #[.int .i64 0,.string s1,.string k1] 150):=by rw[<- g];exact Ak _ h
 have j:l.heap[w.heap.size+1]? = some (.cells #[.int .i64 2,.string s2,.string k2] 150):=by rw[<- g,<- t];exact Ae _ _
 clear h;obtain⟨b,f⟩:∃ Y,l.alloc (.cells #[.int .i64 0,.string ⟨#[]⟩,.string ⟨#[]⟩] 150)=Y:=⟨_,rfl⟩;have s:OH w b:=by rw[<- f];exact Ab q _
 have G:b.heap.size=w.heap.size+3:=by rw[<- f,World.size_alloc];omega
 have c:b.heap[w.heap.size]? = some (.cells #[.int .i64 0,.string s1,.string k1] 150):=by rw[<- f];exact Ak _ i
 have d:b.heap[w.heap.size+1]? = some (.cells #[.int .i64 2,.string s2,.string k2] 150):=by rw[<- f];exact Ak _ j
 have a:b.heap[w.heap.size+2]? = some (.cells #[.int .i64 0,.string ⟨#[]⟩,.string ⟨#[]⟩] 150):=by rw[<- f,<- u];exact Ae _ _
 clear i j;have x:b.cell? (OK w 0)=some (.int .i64 0):=by rw[Lib.cell_of_heap c];rfl
 have y:b.cell? (OK w 1)=some (.string s1):=by rw[Lib.cell_of_heap c];rfl
 have z:b.cell? (OK w 2)=some (.string k1):=by rw[Lib.cell_of_heap c];rfl
 have A:b.cell? (OJ w 1 0)=some (.int .i64 2):=by rw[Lib.cell_of_heap d];rfl
 have B:b.cell? (OJ w 1 1)=some (.string s2):=by rw[Lib.cell_of_heap d];rfl
 have C:b.cell? (OJ w 1 2)=some (.string k2):=by rw[Lib.cell_of_heap d];rfl
 have m:b.cell? (OJ w 2 0)=some (.int .i64 0):=by rw[Lib.cell_of_heap a];rfl
 have n:b.cell? (OJ w 2 1)=some (.string ⟨#[]⟩):=by rw[Lib.cell_of_heap a];rfl
 have o:b.cell? (OJ w 2 2)=some (.string ⟨#[]⟩):=by rw[Lib.cell_of_heap a];rfl
 have D:b.frozen? (OJ w 2 0)=false:=by simp[World.frozen?,a]
 have E:b.frozen? (OJ w 2 1)=false:=by simp[World.frozen?,a]
 have F:b.frozen? (OJ w 2 2)=false:=by simp[World.frozen?,a]
 clear c d a p q;unfold A7;go_enter Tryz.func153,Tryz.ntmps153;go_wp2_with fail;exact bodyPost_ret (v:=A7 2 s2 k2) (by simp[results,Tryz.results153,go_sem,m,n,o,A7]) rfl ⟨rfl,Ad (Ad (Ad s 2 0 _) 2 1 _) 2 2 _⟩
theorem Qex (s1 k1 s2 k2:ByteArray) (w:World) :
  Calls Tryz.prog 153 #[A7 2 s1 k1,A7 1 s2 k2] w fun e w'=>e = .returned (A7 2 ⟨#[]⟩ ⟨#[]⟩)/\OH w w':=by
 obtain⟨r,k⟩:∃ Y,w.alloc (.cells #[.int .i64 2,.string s1,.string k1] 150)=Y:=⟨_,rfl⟩;have p:OH w r:=by rw[<- k];exact Ao w _
 have t:r.heap.size=w.heap.size+1:=by rw[<- k];exact World.size_alloc _ _
 have h:r.heap[w.heap.size]? = some (.cells #[.int .i64 2,.string s1,.string k1] 150):=by rw[<- k];exact Ae w _
 obtain⟨l,g⟩:∃ Y,r.alloc (.cells #[.int .i64 1,.string s2,.string k2] 150)=Y:=⟨_,rfl⟩;have q:OH w l:=by rw[<- g];exact Ab p _
 have u:l.heap.size=w.heap.size+2:=by rw[<- g,World.size_alloc];omega
 have i:l.heap[w.heap.size]? = some (.cells #[.int .i64 2,.string s1,.string k1] 150):=by rw[<- g];exact Ak _ h
 have j:l.heap[w.heap.size+1]? = some (.cells #[.int .i64 1,.string s2,.string k2] 150):=by rw[<- g,<- t];exact Ae _ _
 clear h;obtain⟨b,f⟩:∃ Y,l.alloc (.cells #[.int .i64 0,.string ⟨#[]⟩,.string ⟨#[]⟩] 150)=Y:=⟨_,rfl⟩;have s:OH w b:=by rw[<- f];exact Ab q _
 have G:b.heap.size=w.heap.size+3:=by rw[<- f,World.size_alloc];omega
 have c:b.heap[w.heap.size]? = some (.cells #[.int .i64 2,.string s1,.string k1] 150):=by rw[<- f];exact Ak _ i
 have d:b.heap[w.heap.size+1]? = some (.cells #[.int .i64 1,.string s2,.string k2] 150):=by rw[<- f];exact Ak _ j
 have a:b.heap[w.heap.size+2]? = some (.cells #[.int .i64 0,.string ⟨#[]⟩,.string ⟨#[]⟩] 150):=by rw[<- f,<- u];exact Ae _ _
 clear i j;have x:b.cell? (OK w 0)=some (.int .i64 2):=by rw[Lib.cell_of_heap c];rfl
 have y:b.cell? (OK w 1)=some (.string s1):=by rw[Lib.cell_of_heap c];rfl
 have z:b.cell? (OK w 2)=some (.string k1):=by rw[Lib.cell_of_heap c];rfl
 have A:b.cell? (OJ w 1 0)=some (.int .i64 1):=by rw[Lib.cell_of_heap d];rfl
 have B:b.cell? (OJ w 1 1)=some (.string s2):=by rw[Lib.cell_of_heap d];rfl
 have C:b.cell? (OJ w 1 2)=some (.string k2):=by rw[Lib.cell_of_heap d];rfl
 have m:b.cell? (OJ w 2 0)=some (.int .i64 0):=by rw[Lib.cell_of_heap a];rfl
 have n:b.cell? (OJ w 2 1)=some (.string ⟨#[]⟩):=by rw[Lib.cell_of_heap a];rfl
 have o:b.cell? (OJ w 2 2)=some (.string ⟨#[]⟩):=by rw[Lib.cell_of_heap a];rfl
 have D:b.frozen? (OJ w 2 0)=false:=by simp[World.frozen?,a]
 have E:b.frozen? (OJ w 2 1)=false:=by simp[World.frozen?,a]
 have F:b.frozen? (OJ w 2 2)=false:=by simp[World.frozen?,a]
 clear c d a p q;unfold A7;go_enter Tryz.func153,Tryz.ntmps153;go_wp2_with fail;exact bodyPost_ret (v:=A7 2 ⟨#[]⟩ ⟨#[]⟩) (by simp[results,Tryz.results153,go_sem,m,n,o,A7]) rfl ⟨rfl,Ad (Ad (Ad s 2 0 _) 2 1 _) 2 2 _⟩
theorem Qey (s1 k1 s2 k2:ByteArray) (w:World) :
  Calls Tryz.prog 153 #[A7 2 s1 k1,A7 2 s2 k2] w fun e w'=>e = .returned (A7 2 ⟨#[]⟩ ⟨#[]⟩)/\OH w w':=by
 obtain⟨r,k⟩:∃ Y,w.alloc (.cells #[.int .i64 2,.string s1,.string k1] 150)=Y:=⟨_,rfl⟩;have p:OH w r:=by rw[<- k];exact Ao w _
 have t:r.heap.size=w.heap.size+1:=by rw[<- k];exact World.size_alloc _ _
 have h:r.heap[w.heap.size]? = some (.cells #[.int .i64 2,.string s1,.string k1] 150):=by rw[<- k];exact Ae w _
 obtain⟨l,g⟩:∃ Y,r.alloc (.cells #[.int .i64 2,.string s2,.string k2] 150)=Y:=⟨_,rfl⟩;have q:OH w l:=by rw[<- g];exact Ab p _
 have u:l.heap.size=w.heap.size+2:=by rw[<- g,World.size_alloc];omega
 have i:l.heap[w.heap.size]? = some (.cells #[.int .i64 2,.string s1,.string k1] 150):=by rw[<- g];exact Ak _ h
 have j:l.heap[w.heap.size+1]? = some (.cells #[.int .i64 2,.string s2,.string k2] 150):=by rw[<- g,<- t];exact Ae _ _
 clear h;obtain⟨b,f⟩:∃ Y,l.alloc (.cells #[.int .i64 0,.string ⟨#[]⟩,.string ⟨#[]⟩] 150)=Y:=⟨_,rfl⟩;have s:OH w b:=by rw[<- f];exact Ab q _
 have G:b.heap.size=w.heap.size+3:=by rw[<- f,World.size_alloc];omega
 have c:b.heap[w.heap.size]? = some (.cells #[.int .i64 2,.string s1,.string k1] 150):=by rw[<- f];exact Ak _ i
 have d:b.heap[w.heap.size+1]? = some (.cells #[.int .i64 2,.string s2,.string k2] 150):=by rw[<- f];exact Ak _ j
 have a:b.heap[w.heap.size+2]? = some (.cells #[.int .i64 0,.string ⟨#[]⟩,.string ⟨#[]⟩] 150):=by rw[<- f,<- u];exact Ae _ _
 clear i j;have x:b.cell? (OK w 0)=some (.int .i64 2):=by rw[Lib.cell_of_heap c];rfl
 have y:b.cell? (OK w 1)=some (.string s1):=by rw[Lib.cell_of_heap c];rfl
 have z:b.cell? (OK w 2)=some (.string k1):=by rw[Lib.cell_of_heap c];rfl
 have A:b.cell? (OJ w 1 0)=some (.int .i64 2):=by rw[Lib.cell_of_heap d];rfl
 have B:b.cell? (OJ w 1 1)=some (.string s2):=by rw[Lib.cell_of_heap d];rfl
 have C:b.cell? (OJ w 1 2)=some (.string k2):=by rw[Lib.cell_of_heap d];rfl
 have m:b.cell? (OJ w 2 0)=some (.int .i64 0):=by rw[Lib.cell_of_heap a];rfl
 have n:b.cell? (OJ w 2 1)=some (.string ⟨#[]⟩):=by rw[Lib.cell_of_heap a];rfl
 have o:b.cell? (OJ w 2 2)=some (.string ⟨#[]⟩):=by rw[Lib.cell_of_heap a];rfl
 have D:b.frozen? (OJ w 2 0)=false:=by simp[World.frozen?,a]
 have E:b.frozen? (OJ w 2 1)=false:=by simp[World.frozen?,a]
 have F:b.frozen? (OJ w 2 2)=false:=by simp[World.frozen?,a]
 clear c d a p q;unfold A7;go_enter Tryz.func153,Tryz.ntmps153;go_wp2_with fail;exact bodyPost_ret (v:=A7 2 ⟨#[]⟩ ⟨#[]⟩) (by simp[results,Tryz.results153,go_sem,m,n,o,A7]) rfl ⟨rfl,Ad (Ad (Ad s 2 0 _) 2 1 _) 2 2 _⟩
theorem Qew (s1 k1 s2 k2:ByteArray) (w:World) :
  Calls Tryz.prog 153 #[A7 1 s1 k1,A7 2 s2 k2] w fun e w'=>e = .returned (A7 2 ⟨#[]⟩ ⟨#[]⟩)/\OH w w':=by
 obtain⟨r,k⟩:∃ Y,w.alloc (.cells #[.int .i64 1,.string s1,.string k1] 150)=Y:=⟨_,rfl⟩;have p:OH w r:=by rw[<- k];exact Ao w _
 have t:r.heap.size=w.heap.size+1:=by rw[<- k];exact World.size_alloc _ _
 have h:r.heap[w.heap.size]? = some (.cells #[.int .i64 1,.string s1,.string k1] 150):=by rw[<- k];exact Ae w _
 obtain⟨l,g⟩:∃ Y,r.alloc (.cells #[.int .i64 2,.string s2,.string k2] 150)=Y:=⟨_,rfl⟩;have q:OH w l:=by rw[<- g];exact Ab p _
 have u:l.heap.size=w.heap.size+2:=by rw[<- g,World.size_alloc];omega
 have i:l.heap[w.heap.size]? = some (.cells #[.int .i64 1,.string s1,.string k1] 150):=by rw[<- g];exact Ak _ h
 have j:l.heap[w.heap.size+1]? = some (.cells #[.int .i64 2,.string s2,.string k2] 150):=by rw[<- g,<- t];exact Ae _ _
 clear h;obtain⟨b,f⟩:∃ Y,l.alloc (.cells #[.int .i64 0,.string ⟨#[]⟩,.string ⟨#[]⟩] 150)=Y:=⟨_,rfl⟩;have s:OH w b:=by rw[<- f];exact Ab q _
 have G:b.heap.size=w.heap.size+3:=by rw[<- f,World.size_alloc];omega
 have c:b.heap[w.heap.size]? = some (.cells #[.int .i64 1,.string s1,.string k1] 150):=by rw[<- f];exact Ak _ i
 have d:b.heap[w.heap.size+1]? = some (.cells #[.int .i64 2,.string s2,.string k2] 150):=by rw[<- f];exact Ak _ j
 have a:b.heap[w.heap.size+2]? = some (.cells #[.int .i64 0,.string ⟨#[]⟩,.string ⟨#[]⟩] 150):=by rw[<- f,<- u];exact Ae _ _
 clear i j;have x:b.cell? (OK w 0)=some (.int .i64 1):=by rw[Lib.cell_of_heap c];rfl
 have y:b.cell? (OK w 1)=some (.string s1):=by rw[Lib.cell_of_heap c];rfl
 have z:b.cell? (OK w 2)=some (.string k1):=by rw[Lib.cell_of_heap c];rfl
 have A:b.cell? (OJ w 1 0)=some (.int .i64 2):=by rw[Lib.cell_of_heap d];rfl
 have B:b.cell? (OJ w 1 1)=some (.string s2):=by rw[Lib.cell_of_heap d];rfl
 have C:b.cell? (OJ w 1 2)=some (.string k2):=by rw[Lib.cell_of_heap d];rfl
 have m:b.cell? (OJ w 2 0)=some (.int .i64 0):=by rw[Lib.cell_of_heap a];rfl
 have n:b.cell? (OJ w 2 1)=some (.string ⟨#[]⟩):=by rw[Lib.cell_of_heap a];rfl
 have o:b.cell? (OJ w 2 2)=some (.string ⟨#[]⟩):=by rw[Lib.cell_of_heap a];rfl
 have D:b.frozen? (OJ w 2 0)=false:=by simp[World.frozen?,a]
 have E:b.frozen? (OJ w 2 1)=false:=by simp[World.frozen?,a]
 have F:b.frozen? (OJ w 2 2)=false:=by simp[World.frozen?,a]
 clear c d a p q;unfold A7;go_enter Tryz.func153,Tryz.ntmps153;go_wp2_with fail;exact bodyPost_ret (v:=A7 2 ⟨#[]⟩ ⟨#[]⟩) (by simp[results,Tryz.results153,go_sem,m,n,o,A7]) rfl ⟨rfl,Ad (Ad (Ad s 2 0 _) 2 1 _) 2 2 _⟩
theorem Qez (s1 k1 s2 k2:ByteArray) (hk:(k1.toList == k2.toList)=false) (w:World) :
  Calls Tryz.prog 153 #[A7 1 s1 k1,A7 1 s2 k2] w fun e w'=>e = .returned (A7 2 ⟨#[]⟩ ⟨#[]⟩)/\OH w w':=by
 have G:(k1.toList != k2.toList)=true:=by simp only[bne,hk];rfl
 obtain⟨r,k⟩:∃ Y,w.alloc (.cells #[.int .i64 1,.string s1,.string k1] 150)=Y:=⟨_,rfl⟩;have p:OH w r:=by rw[<- k];exact Ao w _
 have t:r.heap.size=w.heap.size+1:=by rw[<- k];exact World.size_alloc _ _
 have h:r.heap[w.heap.size]? = some (.cells #[.int .i64 1,.string s1,.string k1] 150):=by rw[<- k];exact Ae w _
 obtain⟨l,g⟩:∃ Y,r.alloc (.cells #[.int .i64 1,.string s2,.string k2] 150)=Y:=⟨_,rfl⟩;have q:OH w l:=by rw[<- g];exact Ab p _
 have u:l.heap.size=w.heap.size+2:=by rw[<- g,World.size_alloc];omega
 have i:l.heap[w.heap.size]? = some (.cells #[.int .i64 1,.string s1,.string k1] 150):=by rw[<- g];exact Ak _ h
 have j:l.heap[w.heap.size+1]? = some (.cells #[.int .i64 1,.string s2,.string k2] 150):=by rw[<- g,<- t];exact Ae _ _
 clear h;obtain⟨b,f⟩:∃ Y,l.alloc (.cells #[.int .i64 0,.string ⟨#[]⟩,.string ⟨#[]⟩] 150)=Y:=⟨_,rfl⟩;have s:OH w b:=by rw[<- f];exact Ab q _
 have H:b.heap.size=w.heap.size+3:=by rw[<- f,World.size_alloc];omega
 have c:b.heap[w.heap.size]? = some (.cells #[.int .i64 1,.string s1,.string k1] 150):=by rw[<- f];exact Ak _ i
 have d:b.heap[w.heap.size+1]? = some (.cells #[.int .i64 1,.string s2,.string k2] 150):=by rw[<- f];exact Ak _ j
 have a:b.heap[w.heap.size+2]? = some (.cells #[.int .i64 0,.string ⟨#[]⟩,.string ⟨#[]⟩] 150):=by rw[<- f,<- u];exact Ae _ _
 clear i j;have x:b.cell? (OK w 0)=some (.int .i64 1):=by rw[Lib.cell_of_heap c];rfl
 have y:b.cell? (OK w 1)=some (.string s1):=by rw[Lib.cell_of_heap c];rfl
 have z:b.cell? (OK w 2)=some (.string k1):=by rw[Lib.cell_of_heap c];rfl
 have A:b.cell? (OJ w 1 0)=some (.int .i64 1):=by rw[Lib.cell_of_heap d];rfl
 have B:b.cell? (OJ w 1 1)=some (.string s2):=by rw[Lib.cell_of_heap d];rfl
 have C:b.cell? (OJ w 1 2)=some (.string k2):=by rw[Lib.cell_of_heap d];rfl
 have m:b.cell? (OJ w 2 0)=some (.int .i64 0):=by rw[Lib.cell_of_heap a];rfl
 have n:b.cell? (OJ w 2 1)=some (.string ⟨#[]⟩):=by rw[Lib.cell_of_heap a];rfl
 have o:b.cell? (OJ w 2 2)=some (.string ⟨#[]⟩):=by rw[Lib.cell_of_heap a];rfl
 have D:b.frozen? (OJ w 2 0)=false:=by simp[World.frozen?,a]
 have E:b.frozen? (OJ w 2 1)=false:=by simp[World.frozen?,a]
 have F:b.frozen? (OJ w 2 2)=false:=by simp[World.frozen?,a]
 clear c d a p q;unfold A7;go_enter Tryz.func153,Tryz.ntmps153;go_wp2_with fail;exact bodyPost_ret (v:=A7 2 ⟨#[]⟩ ⟨#[]⟩) (by simp[results,Tryz.results153,go_sem,m,n,o,A7]) rfl ⟨rfl,Ad (Ad (Ad s 2 0 _) 2 1 _) 2 2 _⟩
theorem Qdq (s1 k1 s2 k2:ByteArray) (hk:(k1.toList == k2.toList)=true) (ag:ByteArray) (hag:⟨(Gp s1.data.toList s2.data.toList).toArray⟩=ag) (hsz:s1.size=s2.size) (hs:s1.size<=1048576) (w:World) :
  Calls Tryz.prog 153 #[A7 1 s1 k1,A7 1 s2 k2] w fun e w'=>e = .returned (A7 1 ag k1)/\OH w w':=by
 have U:(k1.toList != k2.toList)=false:=by simp only[bne,hk];rfl
 obtain⟨t,m⟩:∃ Y,w.alloc (.cells #[.int .i64 1,.string s1,.string k1] 150)=Y:=⟨_,rfl⟩;have r:OH w t:=by rw[<- m];exact Ao w _
 have z:t.heap.size=w.heap.size+1:=by rw[<- m];exact World.size_alloc _ _
 have j:t.heap[w.heap.size]? = some (.cells #[.int .i64 1,.string s1,.string k1] 150):=by rw[<- m];exact Ae w _
 obtain⟨q,i⟩:∃ Y,t.alloc (.cells #[.int .i64 1,.string s2,.string k2] 150)=Y:=⟨_,rfl⟩;have s:OH w q:=by rw[<- i];exact Ab r _
 have A:q.heap.size=w.heap.size+2:=by rw[<- i,World.size_alloc];omega
 have k:q.heap[w.heap.size]? = some (.cells #[.int .i64 1,.string s1,.string k1] 150):=by rw[<- i];exact Ak _ j
 have l:q.heap[w.heap.size+1]? = some (.cells #[.int .i64 1,.string s2,.string k2] 150):=by rw[<- i,<- z];exact Ae _ _
 clear j;obtain⟨a,d⟩:∃ Y,q.alloc (.cells #[.int .i64 0,.string ⟨#[]⟩,.string ⟨#[]⟩] 150)=Y:=⟨_,rfl⟩;have y:OH w a:=by rw[<- d];exact Ab s _
 have V:a.heap.size=w.heap.size+3:=by rw[<- d,World.size_alloc];omega
 have b:a.heap[w.heap.size]? = some (.cells #[.int .i64 1,.string s1,.string k1] 150):=by rw[<- d];exact Ak _ k
 have f:a.heap[w.heap.size+1]? = some (.cells #[.int .i64 1,.string s2,.string k2] 150):=by rw[<- d];exact Ak _ l
 have c:a.heap[w.heap.size+2]? = some (.cells #[.int .i64 0,.string ⟨#[]⟩,.string ⟨#[]⟩] 150):=by rw[<- d,<- A];exact Ae _ _
 clear k l;have B:a.cell? (OK w 0)=some (.int .i64 1):=by rw[Lib.cell_of_heap b];rfl
 have C:a.cell? (OK w 1)=some (.string s1):=by rw[Lib.cell_of_heap b];rfl
 have D:a.cell? (OK w 2)=some (.string k1):=by rw[Lib.cell_of_heap b];rfl
 have K:a.frozen? (OK w 0)=false:=by simp[World.frozen?,b]
 have L:a.frozen? (OK w 1)=false:=by simp[World.frozen?,b]
 have M:a.frozen? (OK w 2)=false:=by simp[World.frozen?,b]
 have E:a.cell? (OJ w 1 0)=some (.int .i64 1):=by rw[Lib.cell_of_heap f];rfl
 have F:a.cell? (OJ w 1 1)=some (.string s2):=by rw[Lib.cell_of_heap f];rfl
 have G:a.cell? (OJ w 1 2)=some (.string k2):=by rw[Lib.cell_of_heap f];rfl
 have H:a.cell? (OJ w 2 0)=some (.int .i64 0):=by rw[Lib.cell_of_heap c];rfl
 have I:a.cell? (OJ w 2 1)=some (.string ⟨#[]⟩):=by rw[Lib.cell_of_heap c];rfl
 have J:a.cell? (OJ w 2 2)=some (.string ⟨#[]⟩):=by rw[Lib.cell_of_heap c];rfl
 have N:a.frozen? (OJ w 2 0)=false:=by simp[World.frozen?,c]
 have O:a.frozen? (OJ w 2 1)=false:=by simp[World.frozen?,c]
 have P:a.frozen? (OJ w 2 2)=false:=by simp[World.frozen?,c]
 clear r s;have x:Hid (Calls Tryz.prog 172 #[.string s1,.string s2] a fun e w'=>e = .returned (.string ag)/\OH a w'):=by
  have h:=Wg s1 s2 hsz hs a;rw[hag]at h;exact h
 clear hag hsz;unfold A7;go_enter Tryz.func153,Tryz.ntmps153;go_wp2_with (first|(go_at_call 172;refine x.out.mono ?_;rintro e g ⟨rfl,n⟩;have u:=(n.block w.heap.size Ou).trans b;have o:=(n.block (w.heap.size+2) Ou).trans c;have a0:=(show g.cell? (OK w 0)=some (.int .i64 1) from(by rw[Lib.cell_of_heap u];rfl));have a1:=(show g.cell? (OK w 1)=some (.string s1) from(by rw[Lib.cell_of_heap u];rfl));have a2:=(show g.cell? (OK w 2)=some (.string k1) from(by rw[Lib.cell_of_heap u];rfl));have Q:=(show g.frozen? (OK w 1)=false from(by simp[World.frozen?,u]));have W:=(show g.cell? (OJ w 2 0)=some (.int .i64 0) from(by rw[Lib.cell_of_heap o];rfl));have X:=(show g.cell? (OJ w 2 1)=some (.string ⟨#[]⟩) from(by rw[Lib.cell_of_heap o];rfl));have Z:=(show g.cell? (OJ w 2 2)=some (.string ⟨#[]⟩) from(by rw[Lib.cell_of_heap o];rfl));have R:=(show g.frozen? (OJ w 2 0)=false from(by simp[World.frozen?,o]));have S:=(show g.frozen? (OJ w 2 1)=false from(by simp[World.frozen?,o]));have T:=(show g.frozen? (OJ w 2 2)=false from(by simp[World.frozen?,o]))));exact bodyPost_ret (v:=A7 1 ag k1) (by simp[results,Tryz.results153,go_sem,W,X,Z,A7]) rfl ⟨rfl,Ad (Ad (Ad ((y.trans (n.mono Ou)).setCell (p:=(OK w 1)) (Nat.le_refl _) _) 2 0 _) 2 1 _) 2 2 _⟩
theorem Qdp (m:Nat) (hm:m<=200) (a b:Am) (hb:b ≠ .none) (la:Dv m a) (lb:Dv m b) (sa:Hi a) (sb:Hi b) (w:World) :
  Calls Tryz.prog 153 #[H6 a,H6 b] w fun e w'=>e = .returned (H6 (Bb a b))/\OH w w':=by
 cases b with
 | none=>exact(hb rfl).elim
 | clash =>
  cases a with
  | none=>exact Qev _ _ _ _ w
  | clash=>exact Qey _ _ _ _ w
  | known s k=>exact Qew _ _ _ _ w
 | known t l =>
  cases a with
  | none=>exact Qeu _ _ _ _ w
  | clash=>exact Qex _ _ _ _ w
  | known s k =>
   have d:s.length=m:=la;have f:t.length=m:=lb;by_cases e:k=l
   ·have c:Bb (.known s k) (.known t l) = .known (Be s t) k:=(by rw[Bb,if_pos e]);rw[c];refine Qdq _ _ _ _ (by rw[P6 sa.2 sb.2];simp[e]) (Bt (Be s t)) ?_ (by rw[Ck,Ck];omega) (by rw[Ck];omega) w;rw[X8 sa.1 sb.1];rfl
   ·have c:Bb (.known s k) (.known t l) = .clash:=(by rw[Bb,if_neg e]);rw[c];exact Qez _ _ _ _ (by rw[P6 sa.2 sb.2];simp[e]) w
def Hw (c:List Af) (f:Af) (op:Int):Int × Int :=
 if op=2\/op=3 then (0,f.slots - 1)
 else if op=5 then (1,3)
 else if op=6 then (3,18)
 else if op=7 then (3,10)
 else if op=8 then (1,12)
 else if op=9 then (0,(c.length:Int) - 1)
 else if op=10\/op=11 then (0,(f.ins.length:Int))
 else if op=12/\f.result≠0 then (1,1)
 else (0,0)
theorem Qau (c:List Af) (f:Af) (op:Int) (h1:2<=op) (h16:op<=16) (ca ia:Option Addr) (cc ic:Nat) (pv:Value) (hcl:c.length<=1048576) (_hil:f.ins.length<=1048576) (hsl : -1000000<=f.slots) (hsh:f.slots<=1000000) (w:World) :
  Calls Tryz.prog 152 #[.agg #[.slice ca c.length cc],Bp f pv (.slice ia f.ins.length ic),.int .i64 op] w fun e w'=>e = .returned (.tuple #[.int .i64 (Hw c f op).1,.int .i64 (Hw c f op).2])/\OH w w':=by
 obtain⟨m,k⟩:∃ Y,w.alloc (.cells #[.slice ca c.length cc] 59)=Y:=⟨_,rfl⟩;have l:OH w m:=by rw[<- k];exact Ao w _
 have p:m.heap.size=w.heap.size+1:=by rw[<- k];exact World.size_alloc _ _
 have i:m.heap[w.heap.size]? = some (.cells #[.slice ca c.length cc] 59):=by rw[<- k];exact Ae w _
 obtain⟨b,d⟩:∃ Y,m.alloc (.cells #[.string f.name,pv,.int .i64 f.result,.int .i64 f.slots,.slice ia f.ins.length ic] 130)=Y:=⟨_,rfl⟩;have g:OH w b:=by rw[<- d];exact Ab l _
 have x:b.heap.size=w.heap.size+2:=by rw[<- d,World.size_alloc];omega
 have j:b.heap[w.heap.size]? = some (.cells #[.slice ca c.length cc] 59):=by rw[<- d];exact Ak _ i
 have a:b.heap[w.heap.size+1]? = some (.cells #[.string f.name,pv,.int .i64 f.result,.int .i64 f.slots,.slice ia f.ins.length ic] 130):=by rw[<- d,<- p];exact Ae _ _
 clear i;have q:b.cell? (OK w 0)=some (.slice ca c.length cc):=by rw[Lib.cell_of_heap j];rfl
 have r:b.cell? (OJ w 1 0)=some (.string f.name):=by rw[Lib.cell_of_heap a];rfl
 have s:b.cell? (OJ w 1 1)=some (pv):=by rw[Lib.cell_of_heap a];rfl
 have t:b.cell? (OJ w 1 2)=some (.int .i64 f.result):=by rw[Lib.cell_of_heap a];rfl
 have u:b.cell? (OJ w 1 3)=some (.int .i64 f.slots):=by rw[Lib.cell_of_heap a];rfl
 have v:b.cell? (OJ w 1 4)=some (.slice ia f.ins.length ic):=by rw[Lib.cell_of_heap a];rfl
 clear j a l;have y:wrap64 (f.slots - 1)=f.slots - 1:=IntWalk.wrap64_in _ Ou;have z:wrap64 ((c.length:Int) - 1)=(c.length:Int) - 1:=IntWalk.wrap64_in _ Ou;have h:op=2\/op=3\/op=4\/op=5\/op=6\/op=7\/op=8\/op=9\/op=10\/op=11\/op=12\/op=13\/op=14\/op=15\/op=16:=Ou
 unfold Bp;rcases h with rfl|rfl|rfl|rfl|rfl|rfl|rfl|rfl|rfl|rfl|rfl|rfl|rfl|rfl|rfl
 case inr.inr.inr.inr.inr.inr.inr.inr.inr.inr.inl =>
  by_cases hr:f.result=0
  ·have o:(f.result != 0)=false:=(by simp[hr]);have n:Hid (Hw c f 12=(0,0)):=(by rw[Hid];simp[Hw,hr]);rw[n.out];clear hr;go_enter Tryz.func152,Tryz.ntmps152;go_wp2_with fail;go_ret2;exact⟨rfl,g⟩
  ·have o:(f.result != 0)=true:=(by simp[hr]);have n:Hid (Hw c f 12=(1,1)):=(by rw[Hid];simp[Hw,hr]);rw[n.out];clear hr;go_enter Tryz.func152,Tryz.ntmps152;go_wp2_with fail;go_ret2;exact⟨rfl,g⟩
 all_goals
  go_enter Tryz.func152,Tryz.ntmps152;go_wp2_with fail;first
   | (go_ret2;exact⟨by simp[Hw],g⟩)
   | (go_quiet (fail);go_wp2_with fail;go_ret2;exact⟨by simp[Hw],Pm _ g⟩)
end Go.Proofs.YtahibkjkpmdhgaaGreatDoor
