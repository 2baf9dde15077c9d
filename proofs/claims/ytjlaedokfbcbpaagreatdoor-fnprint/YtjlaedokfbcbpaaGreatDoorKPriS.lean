import Derived.Test.YtjlaedokfbcbpaaGreatDoorKTreeZ
set_option maxRecDepth 100000
set_option maxHeartbeats 4000000
namespace Go.Proofs.YtjlaedokfbcbpaaGreatDoor
open Go.RowKit Proofs.Tryz
theorem La {B:Nat} {a w:World} (n:Nat) (h:Below B a w):Below B a (w.drewN n):=⟨h.os,h.tape,h.output,h.size,h.block⟩
def Dq (d:Ae) (gap:ByteArray) (kd:List Int) (es ss bs:List ByteArray):ByteArray :=
  if d.kind=10 then ⟨#[108,101,116,32]⟩++d.text++⟨#[32,61,32]⟩++es.getD 0 ⟨#[]⟩++⟨#[59,10]⟩
  else if d.kind=11 then d.text++⟨#[32,61,32]⟩++es.getD 0 ⟨#[]⟩++⟨#[59,10]⟩
  else if d.kind=12 then
    (if kd.length < 3 then ⟨#[105,102,32]⟩++es.getD 0 ⟨#[]⟩++⟨#[32,123,10]⟩++bs.getD 1 ⟨#[]⟩++gap++⟨#[125]⟩++⟨#[10]⟩
     else if kd.getD 2 0=12 then ⟨#[105,102,32]⟩++es.getD 0 ⟨#[]⟩++⟨#[32,123,10]⟩++bs.getD 1 ⟨#[]⟩++gap++⟨#[125]⟩++⟨#[32,101,108,115,101,32]⟩++ss.getD 2 ⟨#[]⟩
     else ⟨#[105,102,32]⟩++es.getD 0 ⟨#[]⟩++⟨#[32,123,10]⟩++bs.getD 1 ⟨#[]⟩++gap++⟨#[125]⟩++⟨#[32,101,108,115,101,32,123,10]⟩++bs.getD 2 ⟨#[]⟩++gap++⟨#[125,10]⟩)
  else if d.kind=13 then ⟨#[119,104,105,108,101,32]⟩++es.getD 0 ⟨#[]⟩++⟨#[32,123,10]⟩++bs.getD 1 ⟨#[]⟩++gap++⟨#[125,10]⟩
  else if d.kind=14 then ⟨#[98,114,101,97,107,59,10]⟩
  else if d.kind=15 then ⟨#[99,111,110,116,105,110,117,101,59,10]⟩
  else if d.kind=16 then (if kd.length=0 then ⟨#[114,101,116,117,114,110,59,10]⟩ else ⟨#[114,101,116,117,114,110,32]⟩++es.getD 0 ⟨#[]⟩++⟨#[59,10]⟩)
  else if d.kind=17 then ⟨#[102,97,105,108,32]⟩++es.getD 0 ⟨#[]⟩++⟨#[59,10]⟩
  else if d.kind=18 then ⟨#[119,114,105,116,101,32]⟩++Gq es++⟨#[59,10]⟩
  else if d.kind=19 then ⟨#[115,97,121,32]⟩++es.getD 0 ⟨#[]⟩++⟨#[59,10]⟩
  else es.getD 0 ⟨#[]⟩++⟨#[59,10]⟩
theorem DdPriSx47 {P:Prop} (h:P:=by
 obtain⟨I,J,L,c3,c4,c5⟩:=Fo b
 have H:=((Bc b).cell (p:=(OK s 0)) j).trans f
 go_enter func80,ntmps80
 go_wp2_with fail
 go_region_held3 (fun w'=>w'.cell? (OK s 0)=some (.int .i64 (c:Int))/\w'.cell? (OK w.heap.size 4)=some (.string d.text)) (with_reducible exact⟨H,c4⟩) (first
  | (go_at_call 116;refine(Hx.out _ (HP.out.below (Bc b))).mono ?_;rintro e w1 ⟨rfl,u⟩;have b:=Ga b u;obtain⟨I,J,L,c3,c4,c5⟩:=Fo b;have H:=((Bc b).cell (p:=(OK s 0)) j).trans f))
 go_wp2
 go_ret
 exact⟨rfl,Bc b⟩
 ):P:=h
theorem Qnz (g:Nat) (ns:List Ae) (K:List (List Nat)) (k:Nat) (hlt:k < ns.length) (_hlen:ns.length<=12001) (hrows:K.length=ns.length) (d:Ae) (hnd:ns[k]=d) (hd:d.kind=10) (htext:d.text.size<=1048576) (gap:ByteArray) (_hgap:gap.size<=400) (c:Nat) (x:ByteArray) (hxs:x.size<=100000000) (Hx:Hid (Ct g ns K c x)) (hrow:K.getD k []=[c]) (w:World) (HP:Hid (A6 w g ns K)) :
  Calls prog 80 #[.pointer (some (OK g 0)),.int .i64 (k:Int),.string gap] w fun e w'=>e = .returned (.string (⟨#[108,101,116,32]⟩++d.text++⟨#[32,61,32]⟩++x++⟨#[59,10]⟩))/\Below w.heap.size w w':=by
 obtain⟨O,N,m,M,v,⟨y,z,i⟩,Q,F,⟨r,A,B,C,D,E⟩,q,a⟩:=B9 HP.out k hlt hrows;have G:∀ ob:Obj,(w.alloc ob).cell? (OK g 1)=_:=fun ob=>((OP w ob).cell (p:=(OK g 1)) y).trans F
 have l:∀ ob:Obj,(w.alloc ob).cell? (OK m k)=_:=fun ob=>((OP w ob).cell (p:=(OK m k)) i).trans q
 rw[hnd]at r A B C D E;clear hnd;rw[hd]at r;have t:Hid (Db w v (K.getD k [])):=a;clear a;have n:=t.out;rw[hrow]at n;obtain⟨U,V,rfl,o⟩:=n;obtain⟨s,rfl,j,f⟩:=o 0 OF;simp only[List.getElem_cons_zero]at f;simp only[List.length_cons,List.length_nil]at q l;clear o;have R:¬ (9223372036854775807 < 4+d.text.size):=OC
 have Y:¬ (9223372036854775804 < 4+d.text.size):=OC
 have S:¬ (9223372036854775807 < 4+d.text.size+3):=OC
 have T:¬ (9223372036854775807 < 4+d.text.size+3+x.size):=OC
 have u3:¬ (9223372036854775805 < 4+d.text.size+3+x.size):=OC
 have W:¬ (9223372036854775807 < 4+d.text.size+3+x.size+2):=OC
 have b:=(Below.refl (w.heap.size+1) (w.alloc (.cells #[.int .i64 10,.int .i64 d.op,.int .i64 d.type,.int .i64 d.n,.string d.text,.int .i64 d.kids] 62))).drew;exact DdPriSx47
theorem Qn1 (g:Nat) (ns:List Ae) (K:List (List Nat)) (k:Nat) (hlt:k < ns.length) (_hlen:ns.length<=12001) (hrows:K.length=ns.length) (d:Ae) (hnd:ns[k]=d) (hd:d.kind=11) (htext:d.text.size<=1048576) (gap:ByteArray) (_hgap:gap.size<=400) (c:Nat) (x:ByteArray) (hxs:x.size<=100000000) (Hx:Hid (Ct g ns K c x)) (hrow:K.getD k []=[c]) (w:World) (HP:Hid (A6 w g ns K)) :
  Calls prog 80 #[.pointer (some (OK g 0)),.int .i64 (k:Int),.string gap] w fun e w'=>e = .returned (.string (d.text++⟨#[32,61,32]⟩++x++⟨#[59,10]⟩))/\Below w.heap.size w w':=by
 obtain⟨O,N,m,M,v,⟨y,z,i⟩,Q,F,⟨r,A,B,C,D,E⟩,q,a⟩:=B9 HP.out k hlt hrows;have G:∀ ob:Obj,(w.alloc ob).cell? (OK g 1)=_:=fun ob=>((OP w ob).cell (p:=(OK g 1)) y).trans F
 have l:∀ ob:Obj,(w.alloc ob).cell? (OK m k)=_:=fun ob=>((OP w ob).cell (p:=(OK m k)) i).trans q
 rw[hnd]at r A B C D E;clear hnd;rw[hd]at r;have t:Hid (Db w v (K.getD k [])):=a;clear a;have n:=t.out;rw[hrow]at n;obtain⟨U,V,rfl,o⟩:=n;obtain⟨s,rfl,j,f⟩:=o 0 OF;simp only[List.getElem_cons_zero]at f;simp only[List.length_cons,List.length_nil]at q l;clear o;have X:¬ (9223372036854775804 < d.text.size):=OC
 have R:¬ (9223372036854775807 < d.text.size+3):=OC
 have S:¬ (9223372036854775807 < d.text.size+3+x.size):=OC
 have Z:¬ (9223372036854775805 < d.text.size+3+x.size):=OC
 have T:¬ (9223372036854775807 < d.text.size+3+x.size+2):=OC
 have b:=(Below.refl (w.heap.size+1) (w.alloc (.cells #[.int .i64 11,.int .i64 d.op,.int .i64 d.type,.int .i64 d.n,.string d.text,.int .i64 d.kids] 62))).drew;exact DdPriSx47
theorem DdPriSx113 {P:Prop} (h:P:=by
 obtain⟨S,T,U,c3,c4,c5⟩:=Fo b
 have V:=((Bc b).cell (p:=(OK F 0)) n).trans f
 go_enter func80,ntmps80
 go_wp2_with (first
  | (go_at_call 116;refine(Hx.out _ (HP.out.below (Bc b))).mono ?_;rintro e X ⟨rfl,J⟩;have b:=Ga b J;obtain⟨S,T,U,c3,c4,c5⟩:=Fo b;have V:=((Bc b).cell (p:=(OK F 0)) n).trans f))
 go_ret
 exact⟨rfl,Bc b⟩
 ):P:=h
theorem Ql7 (g:Nat) (ns:List Ae) (K:List (List Nat)) (k:Nat) (hlt:k < ns.length) (_hlen:ns.length<=12001) (hrows:K.length=ns.length) (d:Ae) (hnd:ns[k]=d) (hd:d.kind=17) (_htext:d.text.size<=1048576) (gap:ByteArray) (_hgap:gap.size<=400) (c:Nat) (x:ByteArray) (hxs:x.size<=100000000) (Hx:Hid (Ct g ns K c x)) (hrow:K.getD k []=[c]) (w:World) (HP:Hid (A6 w g ns K)) :
  Calls prog 80 #[.pointer (some (OK g 0)),.int .i64 (k:Int),.string gap] w fun e w'=>e = .returned (.string (⟨#[102,97,105,108,32]⟩++x++⟨#[59,10]⟩))/\Below w.heap.size w w':=by
 obtain⟨I,H,l,G,v,⟨t,u,i⟩,L,D,⟨r,y,z,A,B,C⟩,q,a⟩:=B9 HP.out k hlt hrows;have E:∀ ob:Obj,(w.alloc ob).cell? (OK g 1)=_:=fun ob=>((OP w ob).cell (p:=(OK g 1)) t).trans D
 have j:∀ ob:Obj,(w.alloc ob).cell? (OK l k)=_:=fun ob=>((OP w ob).cell (p:=(OK l k)) i).trans q
 rw[hnd]at r y z A B C;clear hnd;rw[hd]at r;have s:Hid (Db w v (K.getD k [])):=a;clear a;have m:=s.out;rw[hrow]at m;obtain⟨N,O,rfl,o⟩:=m;obtain⟨F,rfl,n,f⟩:=o 0 OF;simp only[List.getElem_cons_zero]at f;simp only[List.length_cons,List.length_nil]at q j;clear o;have M:¬ (9223372036854775807 < 5+x.size):=OC
 have R:¬ (9223372036854775805 < 5+x.size):=OC
 have Q:¬ (9223372036854775807 < 5+x.size+2):=OC
 have b:=(Below.refl (w.heap.size+1) (w.alloc (.cells #[.int .i64 17,.int .i64 d.op,.int .i64 d.type,.int .i64 d.n,.string d.text,.int .i64 d.kids] 62)));exact DdPriSx113
theorem Qn0 (g:Nat) (ns:List Ae) (K:List (List Nat)) (k:Nat) (hlt:k < ns.length) (_hlen:ns.length<=12001) (hrows:K.length=ns.length) (d:Ae) (hnd:ns[k]=d) (hd:d.kind=19) (_htext:d.text.size<=1048576) (gap:ByteArray) (_hgap:gap.size<=400) (c:Nat) (x:ByteArray) (hxs:x.size<=100000000) (Hx:Hid (Ct g ns K c x)) (hrow:K.getD k []=[c]) (w:World) (HP:Hid (A6 w g ns K)) :
  Calls prog 80 #[.pointer (some (OK g 0)),.int .i64 (k:Int),.string gap] w fun e w'=>e = .returned (.string (⟨#[115,97,121,32]⟩++x++⟨#[59,10]⟩))/\Below w.heap.size w w':=by
 obtain⟨I,H,l,G,v,⟨t,u,i⟩,L,D,⟨r,y,z,A,B,C⟩,q,a⟩:=B9 HP.out k hlt hrows;have E:∀ ob:Obj,(w.alloc ob).cell? (OK g 1)=_:=fun ob=>((OP w ob).cell (p:=(OK g 1)) t).trans D
 have j:∀ ob:Obj,(w.alloc ob).cell? (OK l k)=_:=fun ob=>((OP w ob).cell (p:=(OK l k)) i).trans q
 rw[hnd]at r y z A B C;clear hnd;rw[hd]at r;have s:Hid (Db w v (K.getD k [])):=a;clear a;have m:=s.out;rw[hrow]at m;obtain⟨N,O,rfl,o⟩:=m;obtain⟨F,rfl,n,f⟩:=o 0 OF;simp only[List.getElem_cons_zero]at f;simp only[List.length_cons,List.length_nil]at q j;clear o;have M:¬ (9223372036854775807 < 4+x.size):=OC
 have R:¬ (9223372036854775805 < 4+x.size):=OC
 have Q:¬ (9223372036854775807 < 4+x.size+2):=OC
 have b:=(Below.refl (w.heap.size+1) (w.alloc (.cells #[.int .i64 19,.int .i64 d.op,.int .i64 d.type,.int .i64 d.n,.string d.text,.int .i64 d.kids] 62)));exact DdPriSx113
theorem Qma (g:Nat) (ns:List Ae) (K:List (List Nat)) (k:Nat) (hlt:k < ns.length) (_hlen:ns.length<=12001) (hrows:K.length=ns.length) (d:Ae) (hnd:ns[k]=d) (hd:d.kind=16) (_htext:d.text.size<=1048576) (gap:ByteArray) (_hgap:gap.size<=400) (c:Nat) (x:ByteArray) (hxs:x.size<=100000000) (Hx:Hid (Ct g ns K c x)) (hrow:K.getD k []=[c]) (w:World) (HP:Hid (A6 w g ns K)) :
  Calls prog 80 #[.pointer (some (OK g 0)),.int .i64 (k:Int),.string gap] w fun e w'=>e = .returned (.string (⟨#[114,101,116,117,114,110,32]⟩++x++⟨#[59,10]⟩))/\Below w.heap.size w w':=by
 obtain⟨I,H,l,G,v,⟨t,u,i⟩,L,D,⟨r,y,z,A,B,C⟩,q,a⟩:=B9 HP.out k hlt hrows;have E:∀ ob:Obj,(w.alloc ob).cell? (OK g 1)=_:=fun ob=>((OP w ob).cell (p:=(OK g 1)) t).trans D
 have j:∀ ob:Obj,(w.alloc ob).cell? (OK l k)=_:=fun ob=>((OP w ob).cell (p:=(OK l k)) i).trans q
 rw[hnd]at r y z A B C;clear hnd;rw[hd]at r;have s:Hid (Db w v (K.getD k [])):=a;clear a;have m:=s.out;rw[hrow]at m;obtain⟨N,O,rfl,o⟩:=m;obtain⟨F,rfl,n,f⟩:=o 0 OF;simp only[List.getElem_cons_zero]at f;simp only[List.length_cons,List.length_nil]at q j;clear o;have M:¬ (9223372036854775807 < 7+x.size):=OC
 have R:¬ (9223372036854775805 < 7+x.size):=OC
 have Q:¬ (9223372036854775807 < 7+x.size+2):=OC
 have b:=(Below.refl (w.heap.size+1) (w.alloc (.cells #[.int .i64 16,.int .i64 d.op,.int .i64 d.type,.int .i64 d.n,.string d.text,.int .i64 d.kids] 62)));exact DdPriSx113
theorem Qpl (g:Nat) (ns:List Ae) (K:List (List Nat)) (k:Nat) (hlt:k < ns.length) (_hlen:ns.length<=12001) (hrows:K.length=ns.length) (d:Ae) (hnd:ns[k]=d) (hd:d.kind=20) (_htext:d.text.size<=1048576) (gap:ByteArray) (_hgap:gap.size<=400) (c:Nat) (x:ByteArray) (hxs:x.size<=100000000) (Hx:Hid (Ct g ns K c x)) (hrow:K.getD k []=[c]) (w:World) (HP:Hid (A6 w g ns K)) :
  Calls prog 80 #[.pointer (some (OK g 0)),.int .i64 (k:Int),.string gap] w fun e w'=>e = .returned (.string (x++⟨#[59,10]⟩))/\Below w.heap.size w w':=by
 obtain⟨I,H,l,G,v,⟨t,u,i⟩,L,D,⟨r,y,z,A,B,C⟩,q,a⟩:=B9 HP.out k hlt hrows;have E:∀ ob:Obj,(w.alloc ob).cell? (OK g 1)=_:=fun ob=>((OP w ob).cell (p:=(OK g 1)) t).trans D
 have j:∀ ob:Obj,(w.alloc ob).cell? (OK l k)=_:=fun ob=>((OP w ob).cell (p:=(OK l k)) i).trans q
 rw[hnd]at r y z A B C;clear hnd;rw[hd]at r;have s:Hid (Db w v (K.getD k [])):=a;clear a;have m:=s.out;rw[hrow]at m;obtain⟨N,O,rfl,o⟩:=m;obtain⟨F,rfl,n,f⟩:=o 0 OF;simp only[List.getElem_cons_zero]at f;simp only[List.length_cons,List.length_nil]at q j;clear o;have W:¬ (9223372036854775805 < x.size):=OC
 have M:¬ (9223372036854775807 < x.size+2):=OC
 have b:=(Below.refl (w.heap.size+1) (w.alloc (.cells #[.int .i64 20,.int .i64 d.op,.int .i64 d.type,.int .i64 d.n,.string d.text,.int .i64 d.kids] 62)));exact DdPriSx113
theorem DdPriSx213 {P:Prop} (h:P:=by
 obtain⟨A,z,c,y,v,⟨i,j,b⟩,B,t,⟨f,n,o,q,r,s⟩,l,a⟩:=B9 HP.out k hlt hrows
 have u:∀ ob:Obj,(w.alloc ob).cell? (OK g 1)=_:=fun ob=>((OP w ob).cell (p:=(OK g 1)) i).trans t
 have m:∀ ob:Obj,(w.alloc ob).cell? (OK c k)=_:=fun ob=>((OP w ob).cell (p:=(OK c k)) b).trans l
 rw[hnd]at f n o q r s
 clear hnd
 rw[hd]at f
 have x:Hid (Db w v (K.getD k [])):=a
 clear a
 go_enter func80,ntmps80
 go_wp2
 go_ret
 exact⟨rfl,OP w _⟩
 ):P:=h
theorem Qka (g:Nat) (ns:List Ae) (K:List (List Nat)) (k:Nat) (hlt:k < ns.length) (_hlen:ns.length<=12001) (hrows:K.length=ns.length) (d:Ae) (hnd:ns[k]=d) (hd:d.kind=14) (_htext:d.text.size<=1048576) (gap:ByteArray) (_hgap:gap.size<=400) (w:World) (HP:Hid (A6 w g ns K)) :
  Calls prog 80 #[.pointer (some (OK g 0)),.int .i64 (k:Int),.string gap] w fun e w'=>e = .returned (.string (⟨#[98,114,101,97,107,59,10]⟩))/\Below w.heap.size w w':=by
 exact DdPriSx213
theorem Qde (g:Nat) (ns:List Ae) (K:List (List Nat)) (k:Nat) (hlt:k < ns.length) (_hlen:ns.length<=12001) (hrows:K.length=ns.length) (d:Ae) (hnd:ns[k]=d) (hd:d.kind=15) (_htext:d.text.size<=1048576) (gap:ByteArray) (_hgap:gap.size<=400) (w:World) (HP:Hid (A6 w g ns K)) :
  Calls prog 80 #[.pointer (some (OK g 0)),.int .i64 (k:Int),.string gap] w fun e w'=>e = .returned (.string (⟨#[99,111,110,116,105,110,117,101,59,10]⟩))/\Below w.heap.size w w':=by
 exact DdPriSx213
theorem Ql9 (g:Nat) (ns:List Ae) (K:List (List Nat)) (k:Nat) (hlt:k < ns.length) (_hlen:ns.length<=12001) (hrows:K.length=ns.length) (d:Ae) (hnd:ns[k]=d) (hd:d.kind=16) (_htext:d.text.size<=1048576) (gap:ByteArray) (_hgap:gap.size<=400) (hrow:K.getD k []=[]) (w:World) (HP:Hid (A6 w g ns K)) :
  Calls prog 80 #[.pointer (some (OK g 0)),.int .i64 (k:Int),.string gap] w fun e w'=>e = .returned (.string (⟨#[114,101,116,117,114,110,59,10]⟩))/\Below w.heap.size w w':=by
 obtain⟨B,A,f,z,v,⟨m,n,b⟩,C,x,⟨j,q,r,s,t,u⟩,i,a⟩:=B9 HP.out k hlt hrows;have y:∀ ob:Obj,(w.alloc ob).cell? (OK g 1)=_:=fun ob=>((OP w ob).cell (p:=(OK g 1)) m).trans x
 have c:∀ ob:Obj,(w.alloc ob).cell? (OK f k)=_:=fun ob=>((OP w ob).cell (p:=(OK f k)) b).trans i
 rw[hnd]at j q r s t u;clear hnd;rw[hd]at j;have l:Hid (Db w v (K.getD k [])):=a;clear a;have h:=l.out;rw[hrow]at h;obtain⟨D,E,rfl,o⟩:=h;simp only[List.length_nil]at i c;clear o;go_enter func80,ntmps80;go_wp2;go_ret;exact⟨rfl,OP w _⟩
theorem Qkc (g:Nat) (ns:List Ae) (K:List (List Nat)) (k:Nat) (hlt:k < ns.length) (_hlen:ns.length<=12001) (hrows:K.length=ns.length) (d:Ae) (hnd:ns[k]=d) (hd:d.kind=18) (_htext:d.text.size<=1048576) (gap:ByteArray) (_hgap:gap.size<=400) (xs:List ByteArray) (hkn:xs.length=(K.getD k []).length) (hkl:(K.getD k []).length<=12001) (hsize:Ek xs<=50000000) (HE:Hid (∀ j (h:j < (K.getD k []).length) (h':j < xs.length),Ct g ns K (K.getD k [])[j] xs[j])) (w:World) (HP:Hid (A6 w g ns K)) :
  Calls prog 80 #[.pointer (some (OK g 0)),.int .i64 (k:Int),.string gap] w fun e w'=>e = .returned (.string (⟨#[119,114,105,116,101,32]⟩++Gq xs++⟨#[59,10]⟩))/\Below w.heap.size w w':=by
 obtain⟨L,J,n,I,v,⟨u,x,i⟩,M,F,⟨o,A,B,C,D,E⟩,y,b⟩:=B9 HP.out k hlt hrows;have G:∀ ob:Obj,(w.alloc ob).cell? (OK g 1)=_:=fun ob=>((OP w ob).cell (p:=(OK g 1)) u).trans F
 have z:∀ ob:Obj,(w.alloc ob).cell? (OK n k)=_:=fun ob=>((OP w ob).cell (p:=(OK n k)) i).trans y
 rw[hnd]at o A B C D E;clear hnd;rw[hd]at o;have q:Hid (Db w v (K.getD k [])):=b;clear b;have m:Hid (∀ c:World,A6 c g ns K->Db c v (K.getD k [])->Calls prog 117 #[.pointer (some (OK g 0)),v] c fun e w'=>e = .returned (.string (Gq xs))/\Below c.heap.size c w'):=fun c h1 h2=>Qr g ns K v (K.getD k []) xs hkn hkl OC HE c h1 h2
 have H:=Ku xs;generalize Gq xs=l at m H |-
 have N:¬ (9223372036854775807 < 6+l.size):=OC
 have P:¬ (9223372036854775805 < 6+l.size):=OC
 have O:¬ (9223372036854775807 < 6+l.size+2):=OC
 have a:=(Below.refl (w.heap.size+1) (w.alloc (.cells #[.int .i64 18,.int .i64 d.op,.int .i64 d.type,.int .i64 d.n,.string d.text,.int .i64 d.kids] 62)));obtain⟨r,s,t,c3,c4,c5⟩:=Fo a;go_enter func80,ntmps80;go_wp2_with (first
  | (go_at_call 117;refine(m.out _ (HP.out.below (Bc a)) (q.out.below (Bc a))).mono ?_;rintro e c ⟨rfl,f⟩;have a:=Ga a f;obtain⟨r,s,t,c3,c4,c5⟩:=Fo a))
 go_ret;exact⟨rfl,Bc a⟩
theorem DdPriTx37 {P:Prop} (h:P:=by
 obtain⟨R,S,T,c3,c4,c5⟩:=Fo a
 have O:=((Bc a).cell (p:=(OK o 0)) i).trans j
 have Q:=((Bc a).cell (p:=(OK o 1)) i).trans l
 go_enter func80,ntmps80
 go_wp2_with fail
 go_region_held3 (fun w'=>w'.cell? (OK o 0)=some (.int .i64 (c:Int))/\w'.cell? (OK o 1)=some (.int .i64 (b:Int))) (with_reducible exact⟨O,Q⟩) (first
  | (go_at_call 116;refine(Hx.out _ (HP.out.below (Bc a))).mono ?_;rintro e n ⟨rfl,q⟩;have a:=Ga a q;obtain⟨R,S,T,c3,c4,c5⟩:=Fo a;have O:=((Bc a).cell (p:=(OK o 0)) i).trans j;have Q:=((Bc a).cell (p:=(OK o 1)) i).trans l)
  | (go_at_call 49;refine(Hy.out _ (HP.out.below (Bc a))).mono ?_;rintro e n ⟨rfl,q⟩;have a:=Ga a q;obtain⟨R,S,T,c3,c4,c5⟩:=Fo a;have O:=((Bc a).cell (p:=(OK o 0)) i).trans j;have Q:=((Bc a).cell (p:=(OK o 1)) i).trans l))
 go_wp2
 go_ret
 exact⟨rfl,Bc a⟩
 ):P:=h
theorem Qkb (g:Nat) (ns:List Ae) (K:List (List Nat)) (k:Nat) (hlt:k < ns.length) (_hlen:ns.length<=12001) (hrows:K.length=ns.length) (d:Ae) (hnd:ns[k]=d) (hd:d.kind=13) (_htext:d.text.size<=1048576) (gap:ByteArray) (hgap:gap.size<=400) (c:Nat) (x:ByteArray) (hxs:x.size<=100000000) (Hx:Hid (Ct g ns K c x)) (b:Nat) (y:ByteArray) (hys:y.size<=100000000) (Hy:Hid (∀ n:World,A6 n g ns K->Calls prog 49 #[.pointer (some (OK g 0)),.int .i64 (b:Int),.string (gap++⟨#[32,32]⟩)] n fun e w'=>e = .returned (.string y)/\Below n.heap.size n w')) (hrow:K.getD k []=[c,b]) (w:World) (HP:Hid (A6 w g ns K)) :
  Calls prog 80 #[.pointer (some (OK g 0)),.int .i64 (k:Int),.string gap] w fun e w'=>e = .returned (.string (⟨#[119,104,105,108,101,32]⟩++x++⟨#[32,123,10]⟩++y++gap++⟨#[125,10]⟩))/\Below w.heap.size w w':=by
 obtain⟨W,V,u,U,v,⟨E,F,r⟩,X,M,⟨B,G,H,I,J,L⟩,A,f⟩:=B9 HP.out k hlt hrows;have N:∀ ob:Obj,(w.alloc ob).cell? (OK g 1)=_:=fun ob=>((OP w ob).cell (p:=(OK g 1)) E).trans M
 have t:∀ ob:Obj,(w.alloc ob).cell? (OK u k)=_:=fun ob=>((OP w ob).cell (p:=(OK u k)) r).trans A
 rw[hnd]at B G H I J L;clear hnd;rw[hd]at B;have C:Hid (Db w v (K.getD k [])):=f;clear f;have z:=C.out;rw[hrow]at z;obtain⟨ua,uc,rfl,s⟩:=z;obtain⟨o,rfl,i,j⟩:=s 0 OF;obtain⟨D,m,_,l⟩:=s 1 OF;cases m
 simp only[List.getElem_cons_zero,List.getElem_cons_succ]at j l;simp only[List.length_cons,List.length_nil]at A t;clear s;have v0:¬ (9223372036854775805 < gap.size):=OC
 have v1:¬ (9223372036854775807 < gap.size+2):=OC
 have Y:¬ (9223372036854775807 < 6+x.size):=OC
 have u1:¬ (9223372036854775804 < 6+x.size):=OC
 have Z:¬ (9223372036854775807 < 6+x.size+3):=OC
 have s2:¬ (9223372036854775807 < 6+x.size+3+y.size):=OC
 have s3:¬ (9223372036854775807 < 6+x.size+3+y.size+gap.size):=OC
 have u4:¬ (9223372036854775805 < 6+x.size+3+y.size+gap.size):=OC
 have s4:¬ (9223372036854775807 < 6+x.size+3+y.size+gap.size+2):=OC
 have a:=(Below.refl (w.heap.size+1) (w.alloc (.cells #[.int .i64 13,.int .i64 d.op,.int .i64 d.type,.int .i64 d.n,.string d.text,.int .i64 d.kids] 62))).drew;exact DdPriTx37
theorem Qny (g:Nat) (ns:List Ae) (K:List (List Nat)) (k:Nat) (hlt:k < ns.length) (_hlen:ns.length<=12001) (hrows:K.length=ns.length) (d:Ae) (hnd:ns[k]=d) (hd:d.kind=12) (_htext:d.text.size<=1048576) (gap:ByteArray) (hgap:gap.size<=400) (c:Nat) (x:ByteArray) (hxs:x.size<=100000000) (Hx:Hid (Ct g ns K c x)) (b:Nat) (y:ByteArray) (hys:y.size<=100000000) (Hy:Hid (∀ n:World,A6 n g ns K->Calls prog 49 #[.pointer (some (OK g 0)),.int .i64 (b:Int),.string (gap++⟨#[32,32]⟩)] n fun e w'=>e = .returned (.string y)/\Below n.heap.size n w')) (hrow:K.getD k []=[c,b]) (w:World) (HP:Hid (A6 w g ns K)) :
  Calls prog 80 #[.pointer (some (OK g 0)),.int .i64 (k:Int),.string gap] w fun e w'=>e = .returned (.string (⟨#[105,102,32]⟩++x++⟨#[32,123,10]⟩++y++gap++⟨#[125]⟩++⟨#[10]⟩))/\Below w.heap.size w w':=by
 obtain⟨W,V,u,U,v,⟨E,F,r⟩,X,M,⟨B,G,H,I,J,L⟩,A,f⟩:=B9 HP.out k hlt hrows;have N:∀ ob:Obj,(w.alloc ob).cell? (OK g 1)=_:=fun ob=>((OP w ob).cell (p:=(OK g 1)) E).trans M
 have t:∀ ob:Obj,(w.alloc ob).cell? (OK u k)=_:=fun ob=>((OP w ob).cell (p:=(OK u k)) r).trans A
 rw[hnd]at B G H I J L;clear hnd;rw[hd]at B;have C:Hid (Db w v (K.getD k [])):=f;clear f;have z:=C.out;rw[hrow]at z;obtain⟨ua,uc,rfl,s⟩:=z;obtain⟨o,rfl,i,j⟩:=s 0 OF;obtain⟨D,m,_,l⟩:=s 1 OF;cases m
 simp only[List.getElem_cons_zero,List.getElem_cons_succ]at j l;simp only[List.length_cons,List.length_nil]at A t;clear s;have v0:¬ (9223372036854775805 < gap.size):=OC
 have v1:¬ (9223372036854775807 < gap.size+2):=OC
 have Y:¬ (9223372036854775807 < 3+x.size):=OC
 have u1:¬ (9223372036854775804 < 3+x.size):=OC
 have Z:¬ (9223372036854775807 < 3+x.size+3):=OC
 have s2:¬ (9223372036854775807 < 3+x.size+3+y.size):=OC
 have s3:¬ (9223372036854775807 < 3+x.size+3+y.size+gap.size):=OC
 have u4:¬ (9223372036854775806 < 3+x.size+3+y.size+gap.size):=OC
 have s4:¬ (9223372036854775807 < 3+x.size+3+y.size+gap.size+1):=OC
 have u5:¬ (9223372036854775806 < 3+x.size+3+y.size+gap.size+1):=OC
 have s5:¬ (9223372036854775807 < 3+x.size+3+y.size+gap.size+1+1):=OC
 have a:=(Below.refl (w.heap.size+1) (w.alloc (.cells #[.int .i64 12,.int .i64 d.op,.int .i64 d.type,.int .i64 d.n,.string d.text,.int .i64 d.kids] 62))).drew;exact DdPriTx37
theorem Ql8 (g:Nat) (ns:List Ae) (K:List (List Nat)) (k:Nat) (hlt:k < ns.length) (_hlen:ns.length<=12001) (hrows:K.length=ns.length) (d:Ae) (hnd:ns[k]=d) (hd:d.kind=12) (_htext:d.text.size<=1048576) (gap:ByteArray) (hgap:gap.size<=400) (c:Nat) (x:ByteArray) (hxs:x.size<=100000000) (Hx:Hid (Ct g ns K c x)) (b:Nat) (y:ByteArray) (hys:y.size<=100000000) (Hy:Hid (∀ n:World,A6 n g ns K->Calls prog 49 #[.pointer (some (OK g 0)),.int .i64 (b:Int),.string (gap++⟨#[32,32]⟩)] n fun e w'=>e = .returned (.string y)/\Below n.heap.size n w')) (f:Nat) (z:ByteArray) (hfl:f < ns.length) (hzs:z.size<=100000000) (Hz:Hid (∀ n:World,A6 n g ns K->Calls prog 80 #[.pointer (some (OK g 0)),.int .i64 (f:Int),.string gap] n fun e w'=>e = .returned (.string z)/\Below n.heap.size n w')) (hrow:K.getD k []=[c,b,f]) (hk12:ns[f].kind=12) (w:World) (HP:Hid (A6 w g ns K)) :
  Calls prog 80 #[.pointer (some (OK g 0)),.int .i64 (k:Int),.string gap] w fun e w'=>e = .returned (.string (⟨#[105,102,32]⟩++x++⟨#[32,123,10]⟩++y++gap++⟨#[125]⟩++⟨#[32,101,108,115,101,32]⟩++z))/\Below w.heap.size w w':=by
 obtain⟨U,cn,J,ck,v,⟨M,G,F⟩,Q,p1,⟨P,Z,n2,n3,n4,n5⟩,N,q⟩:=B9 HP.out k hlt hrows;have aa:∀ ob:Obj,(w.alloc ob).cell? (OK g 1)=_:=fun ob=>((OP w ob).cell (p:=(OK g 1)) M).trans p1
 have H:∀ ob:Obj,(w.alloc ob).cell? (OK J k)=_:=fun ob=>((OP w ob).cell (p:=(OK J k)) F).trans N
 rw[hnd]at P Z n2 n3 n4 n5;clear hnd;rw[hd]at P;have S:Hid (Db w v (K.getD k [])):=q;clear q;have L:=S.out;rw[hrow]at L;obtain⟨ua,uc,rfl,D⟩:=L;obtain⟨i,rfl,h,j⟩:=D 0 OF;obtain⟨W,r,_,l⟩:=D 1 OF;cases r
 obtain⟨X,s,_,m⟩:=D 2 OF;cases s
 simp only[List.getElem_cons_zero,List.getElem_cons_succ]at j l m;simp only[List.length_cons,List.length_nil]at N H;clear D;have I:=B9 HP.out f hfl hrows;obtain⟨V,T,_,_,_,_,R,_,⟨O,_⟩,_⟩:=I;rw[Q]at R;cases R
 rw[hk12]at O;have v0:¬ (9223372036854775805 < gap.size):=OC
 have v1:¬ (9223372036854775807 < gap.size+2):=OC
 have s0:¬ (9223372036854775807 < 3+x.size):=OC
 have u1:¬ (9223372036854775804 < 3+x.size):=OC
 have s1:¬ (9223372036854775807 < 3+x.size+3):=OC
 have s2:¬ (9223372036854775807 < 3+x.size+3+y.size):=OC
 have s3:¬ (9223372036854775807 < 3+x.size+3+y.size+gap.size):=OC
 have u4:¬ (9223372036854775806 < 3+x.size+3+y.size+gap.size):=OC
 have s4:¬ (9223372036854775807 < 3+x.size+3+y.size+gap.size+1):=OC
 have u5:¬ (9223372036854775801 < 3+x.size+3+y.size+gap.size+1):=OC
 have s5:¬ (9223372036854775807 < 3+x.size+3+y.size+gap.size+1+6):=OC
 have s6:¬ (9223372036854775807 < 3+x.size+3+y.size+gap.size+1+6+z.size):=OC
 have a:=(Below.refl (w.heap.size+1) (w.alloc (.cells #[.int .i64 12,.int .i64 d.op,.int .i64 d.type,.int .i64 d.n,.string d.text,.int .i64 d.kids] 62))).drew;obtain⟨A,B,C,c3,c4,c5⟩:=Fo a;have t:=((Bc a).cell (p:=(OK i 0)) h).trans j;have u:=((Bc a).cell (p:=(OK i 1)) h).trans l;have E:=((Bc a).cell (p:=(OK i 2)) h).trans m;go_enter func80,ntmps80;go_wp2_with fail;go_region_held3 (fun w'=>w'.cell? (OK i 0)=some (.int .i64 (c:Int))/\w'.cell? (OK i 1)=some (.int .i64 (b:Int))) (with_reducible exact⟨t,u⟩) (first
  | (go_at_call 116;refine(Hx.out _ (HP.out.below (Bc a))).mono ?_;rintro e n ⟨rfl,o⟩;have a:=Ga a o;obtain⟨A,B,C,c3,c4,c5⟩:=Fo a;have t:=((Bc a).cell (p:=(OK i 0)) h).trans j;have u:=((Bc a).cell (p:=(OK i 1)) h).trans l;have E:=((Bc a).cell (p:=(OK i 2)) h).trans m)
  | (go_at_call 49;refine(Hy.out _ (HP.out.below (Bc a))).mono ?_;rintro e n ⟨rfl,o⟩;have a:=Ga a o;obtain⟨A,B,C,c3,c4,c5⟩:=Fo a;have t:=((Bc a).cell (p:=(OK i 0)) h).trans j;have u:=((Bc a).cell (p:=(OK i 1)) h).trans l;have E:=((Bc a).cell (p:=(OK i 2)) h).trans m))
 have pc:=((Bc a).cell (p:=(OK g 0)) M).trans Q;have mc:=((Bc a).cell (p:=(OK U (f * 6))) G).trans O;have Y:f < ns.length:=hfl;go_wp2_with fail;go_quiet (fail);have a:=La nq a;obtain⟨A,B,C,c3,c4,c5⟩:=Fo a;have t:=((Bc a).cell (p:=(OK i 0)) h).trans j;have u:=((Bc a).cell (p:=(OK i 1)) h).trans l;have E:=((Bc a).cell (p:=(OK i 2)) h).trans m;go_wp2_with (first
  | (go_at_call 80;refine(Hz.out _ (HP.out.below (Bc a))).mono ?_;rintro e n ⟨rfl,o⟩;have a:=Ga a o;obtain⟨A,B,C,c3,c4,c5⟩:=Fo a;have t:=((Bc a).cell (p:=(OK i 0)) h).trans j;have u:=((Bc a).cell (p:=(OK i 1)) h).trans l;have E:=((Bc a).cell (p:=(OK i 2)) h).trans m))
 go_ret;exact⟨rfl,Bc a⟩
theorem Qh0 (g:Nat) (ns:List Ae) (K:List (List Nat)) (k:Nat) (hlt:k < ns.length) (_hlen:ns.length<=12001) (hrows:K.length=ns.length) (d:Ae) (hnd:ns[k]=d) (hd:d.kind=12) (_htext:d.text.size<=1048576) (gap:ByteArray) (hgap:gap.size<=400) (c:Nat) (x:ByteArray) (hxs:x.size<=100000000) (Hx:Hid (Ct g ns K c x)) (b:Nat) (y:ByteArray) (hys:y.size<=100000000) (Hy:Hid (∀ n:World,A6 n g ns K->Calls prog 49 #[.pointer (some (OK g 0)),.int .i64 (b:Int),.string (gap++⟨#[32,32]⟩)] n fun e w'=>e = .returned (.string y)/\Below n.heap.size n w')) (f:Nat) (hfl:f < ns.length) (z:ByteArray) (hzs:z.size<=100000000) (Hz:Hid (∀ n:World,A6 n g ns K->Calls prog 49 #[.pointer (some (OK g 0)),.int .i64 (f:Int),.string (gap++⟨#[32,32]⟩)] n fun e w'=>e = .returned (.string z)/\Below n.heap.size n w')) (hrow:K.getD k []=[c,b,f]) (hk12:¬ ns[f].kind=12) (w:World) (HP:Hid (A6 w g ns K)) :
  Calls prog 80 #[.pointer (some (OK g 0)),.int .i64 (k:Int),.string gap] w fun e w'=>e = .returned (.string (⟨#[105,102,32]⟩++x++⟨#[32,123,10]⟩++y++gap++⟨#[125]⟩++⟨#[32,101,108,115,101,32,123,10]⟩++z++gap++⟨#[125,10]⟩))/\Below w.heap.size w w':=by
 obtain⟨U,cn,L,ck,v,⟨N,G,F⟩,Q,p1,⟨P,n1,n2,n3,n4,n5⟩,O,q⟩:=B9 HP.out k hlt hrows;have aa:∀ ob:Obj,(w.alloc ob).cell? (OK g 1)=_:=fun ob=>((OP w ob).cell (p:=(OK g 1)) N).trans p1
 have I:∀ ob:Obj,(w.alloc ob).cell? (OK L k)=_:=fun ob=>((OP w ob).cell (p:=(OK L k)) F).trans O
 rw[hnd]at P n1 n2 n3 n4 n5;clear hnd;rw[hd]at P;have S:Hid (Db w v (K.getD k [])):=q;clear q;have M:=S.out;rw[hrow]at M;obtain⟨ua,uc,rfl,D⟩:=M;obtain⟨i,rfl,h,j⟩:=D 0 OF;obtain⟨W,r,_,l⟩:=D 1 OF;cases r
 obtain⟨X,s,_,m⟩:=D 2 OF;cases s
 simp only[List.getElem_cons_zero,List.getElem_cons_succ]at j l m;simp only[List.length_cons,List.length_nil]at O I;clear D;have J:=B9 HP.out f hfl hrows;obtain⟨V,T,_,_,_,_,R,_,⟨Z,_⟩,_⟩:=J;rw[Q]at R;cases R
 have H:(ns[f].kind == 12)=false:=by simpa using hk12
 have v0:¬ (9223372036854775805 < gap.size):=OC
 have v1:¬ (9223372036854775807 < gap.size+2):=OC
 have s0:¬ (9223372036854775807 < 3+x.size):=OC
 have u1:¬ (9223372036854775804 < 3+x.size):=OC
 have s1:¬ (9223372036854775807 < 3+x.size+3):=OC
 have s2:¬ (9223372036854775807 < 3+x.size+3+y.size):=OC
 have s3:¬ (9223372036854775807 < 3+x.size+3+y.size+gap.size):=OC
 have u4:¬ (9223372036854775806 < 3+x.size+3+y.size+gap.size):=OC
 have s4:¬ (9223372036854775807 < 3+x.size+3+y.size+gap.size+1):=OC
 have u5:¬ (9223372036854775799 < 3+x.size+3+y.size+gap.size+1):=OC
 have s5:¬ (9223372036854775807 < 3+x.size+3+y.size+gap.size+1+8):=OC
 have s6:¬ (9223372036854775807 < 3+x.size+3+y.size+gap.size+1+8+z.size):=OC
 have s7:¬ (9223372036854775807 < 3+x.size+3+y.size+gap.size+1+8+z.size+gap.size):=OC
 have u8:¬ (9223372036854775805 < 3+x.size+3+y.size+gap.size+1+8+z.size+gap.size):=OC
 have s8:¬ (9223372036854775807 < 3+x.size+3+y.size+gap.size+1+8+z.size+gap.size+2):=OC
 have a:=(Below.refl (w.heap.size+1) (w.alloc (.cells #[.int .i64 12,.int .i64 d.op,.int .i64 d.type,.int .i64 d.n,.string d.text,.int .i64 d.kids] 62))).drew;obtain⟨A,B,C,c3,c4,c5⟩:=Fo a;have t:=((Bc a).cell (p:=(OK i 0)) h).trans j;have u:=((Bc a).cell (p:=(OK i 1)) h).trans l;have E:=((Bc a).cell (p:=(OK i 2)) h).trans m;go_enter func80,ntmps80;go_wp2_with fail;go_region_held3 (fun w'=>w'.cell? (OK i 0)=some (.int .i64 (c:Int))/\w'.cell? (OK i 1)=some (.int .i64 (b:Int))) (with_reducible exact⟨t,u⟩) (first
  | (go_at_call 116;refine(Hx.out _ (HP.out.below (Bc a))).mono ?_;rintro e n ⟨rfl,o⟩;have a:=Ga a o;obtain⟨A,B,C,c3,c4,c5⟩:=Fo a;have t:=((Bc a).cell (p:=(OK i 0)) h).trans j;have u:=((Bc a).cell (p:=(OK i 1)) h).trans l;have E:=((Bc a).cell (p:=(OK i 2)) h).trans m)
  | (go_at_call 49;refine(Hy.out _ (HP.out.below (Bc a))).mono ?_;rintro e n ⟨rfl,o⟩;have a:=Ga a o;obtain⟨A,B,C,c3,c4,c5⟩:=Fo a;have t:=((Bc a).cell (p:=(OK i 0)) h).trans j;have u:=((Bc a).cell (p:=(OK i 1)) h).trans l;have E:=((Bc a).cell (p:=(OK i 2)) h).trans m))
 have pc:=((Bc a).cell (p:=(OK g 0)) N).trans Q;have mc:=((Bc a).cell (p:=(OK U (f * 6))) G).trans Z;have Y:f < ns.length:=hfl;go_wp2_with fail;go_quiet (fail);have a:=La nq a;obtain⟨A,B,C,c3,c4,c5⟩:=Fo a;have t:=((Bc a).cell (p:=(OK i 0)) h).trans j;have u:=((Bc a).cell (p:=(OK i 1)) h).trans l;have E:=((Bc a).cell (p:=(OK i 2)) h).trans m;go_wp2_with (first
  | (go_at_call 49;refine(Hz.out _ (HP.out.below (Bc a))).mono ?_;rintro e n ⟨rfl,o⟩;have a:=Ga a o;obtain⟨A,B,C,c3,c4,c5⟩:=Fo a;have t:=((Bc a).cell (p:=(OK i 0)) h).trans j;have u:=((Bc a).cell (p:=(OK i 1)) h).trans l;have E:=((Bc a).cell (p:=(OK i 2)) h).trans m))
 go_ret;exact⟨rfl,Bc a⟩
def I1 (gap:ByteArray) (xs:List ByteArray):List UInt8:=xs.flatMap (fun x=>gap.data.toList++x.data.toList)
def Qq (gap:ByteArray) (xs:List ByteArray):ByteArray:=⟨(I1 gap xs).toArray⟩
def Gz (n:Nat) (xs:List ByteArray):Nat:=(xs.map (fun x=>x.size+n)).sum
theorem Vt (n:Nat) (a b:List ByteArray):Gz n (a++b)=Gz n a+Gz n b:=by simp[Gz]
theorem Uh (n:Nat) (xs:List ByteArray) (j:Nat):Gz n (xs.take j)<=Gz n xs:=by
 have h:=Vt n (xs.take j) (xs.drop j);rw[List.take_append_drop]at h;omega
theorem Ue (gap:ByteArray):∀ xs:List ByteArray,(I1 gap xs).length=Gz gap.size xs
 | []=>by simp[I1,Gz]
 | x::r=>by
  have h:=Ue gap r
  have a:x.data.toList.length=x.size:=by simp
  have b:gap.data.toList.length=gap.size:=by simp
  simp only[I1,Gz,List.flatMap_cons,List.length_append,List.map_cons,List.sum_cons]at h |-
  omega
def Zq (g:Nat) (ns:List Ae) (K:List (List Nat)) (k:Nat) (gap x:ByteArray):Prop :=
 ∀ w:World,A6 w g ns K->Calls prog 80 #[.pointer (some (OK g 0)),.int .i64 (k:Int),.string gap] w fun e w'=>e = .returned (.string x)/\Below w.heap.size w w'
def Wj (g:Nat) (ns:List Ae) (K:List (List Nat)) (k:Nat) (gap x:ByteArray):Prop :=
 ∀ w:World,A6 w g ns K->Calls prog 49 #[.pointer (some (OK g 0)),.int .i64 (k:Int),.string gap] w fun e w'=>e = .returned (.string x)/\Below w.heap.size w w'
theorem Qht (g:Nat) (ns:List Ae) (K:List (List Nat)) (k:Nat) (hlt:k < ns.length) (hrows:K.length=ns.length) (_hlen0:ns.length<=12001) (gap:ByteArray) (hgap:gap.size<=400) (xs:List ByteArray) (hlen:xs.length=(K.getD k []).length) (hl:(K.getD k []).length<=12001) (ht:Gz gap.size xs<=100000000)
    (HE:Hid (∀ j (h:j < (K.getD k []).length) (h':j < xs.length),Zq g ns K (K.getD k [])[j] gap xs[j])) (w:World) (HP:Hid (A6 w g ns K)) :
    Calls prog 49 #[.pointer (some (OK g 0)),.int .i64 (k:Int),.string gap] w fun e w'=>e = .returned (.string (Qq gap xs))/\Below w.heap.size w w':=by
  obtain⟨i0,hi,I,J,L⟩:=info_parts Tryz.infoByte;obtain⟨gn,cn,gk,ck,v,⟨hg,ad,T⟩,p0,p1,_,hv,z⟩:=B9 HP.out k hlt hrows;have af:∀ ob:Obj,(w.alloc ob).cell? (OK g 1)=_:=fun ob=>((OP w ob).cell (p:=(OK g 1)) hg).trans p1
  have ab:∀ ob:Obj,(w.alloc ob).cell? (OK gk k)=_:=fun ob=>((OP w ob).cell (p:=(OK gk k)) T).trans hv
  generalize K.getD k []=ks at *;obtain⟨ua,uc,rfl,E⟩:=z;have HJ:Hid (∀ j (h:j < ks.length),∃ t,ua=some (OK t 0)/\t < w.heap.size/\w.cell? (OK t j)=some (.int .i64 (ks[j]:Int))):=E;clear E;obtain⟨n,O⟩:∃ n,Hid (ks.length=n):=⟨_,(rfl:ks.length=_)⟩;rw[O.out]at hl hlen hv;simp only[O.out]at ab;go_enter func49,ntmps49;go_wp2;have C:gap.data.toList.length=gap.size:=by simp
  go_loopw [7,9] (fun o i wr => ∃ (j:Nat) (acc:List UInt8),i = .int .i64 (j:Int)/\j<=n/\acc=I1 gap (xs.take j)/\wr.ownsRow w.heap.size 5 1 o acc.length (Lib.byteCells acc)/\Below w.heap.size w wr) (fun _ i _=>n - (intOf i).toNat);case atStart =>
    refine⟨0,[],rfl,by omega,by simp[I1], ?_,OP w _⟩;exact World.ownsRow_made (base:=w.heap.size) (e:=5) (size:=1) w #[] 0 ON OD rfl
  case round =>
    obtain⟨j,acc,rfl,N,a,l,r⟩:=hrel;have H:=r.size;have U:acc.length<=100000000:=by
      have h1:=Ue gap (xs.take j);have h2:=Uh gap.size xs j;rw[a];omega
    by_cases hjn:j < n
    · have F:j < ks.length:=(by rw[O.out];exact hjn);have G:j < xs.length:=OC;obtain⟨t,rfl,D,f⟩:=HJ.out j F;have hE:=HE.out j F G;have R:xs.take j++[xs[j]]=xs.take (j+1):=(by rw[List.take_add_one,List.getElem?_eq_getElem G];rfl);have ae:xs[j].size<=100000000:=by
        have h1:=Uh gap.size xs (j+1);have e:Gz gap.size (xs.take (j+1))=Gz gap.size (xs.take j)+(xs[j].size+gap.size):=by
          rw[<- R,Vt];simp[Gz]
        omega
      have Q:Hid ((acc++gap.data.toList)++xs[j].data.toList=I1 gap (xs.take (j+1))):=by
        rw[Hid,<- R,a,I1,I1,List.flatMap_append];simp only[List.flatMap_cons,List.flatMap_nil,List.append_nil,List.append_assoc]
      generalize xs[j]=x at *;generalize ks[j]=c at *;have HX:Hid (Zq g ns K c gap x):=hE;clear hE R a;have c1:wr.cell? (OK t j)=some (.int .i64 (c:Int)):=(r.cell (p:=(OK t j)) D).trans f;have V:acc.length+gap.size<=maxLen:=OI;have W:acc.length+gap.size<=140737488355328:=OC;have X:(acc++gap.data.toList).length+x.size<=maxLen:=(by rw[List.length_append,C];unfold maxLen;omega);have Y:(acc++gap.data.toList).length+x.size<=140737488355328:=(by rw[List.length_append,C];omega);go_wp2_with (first
        | (go_at_call 80;refine(HX.out _ (HP.out.below q)).mono ?_;rintro e w2 ⟨rfl,B⟩
           have u:=My M B
           have d:=q.trans (B.mono q.size))
        | (at_builtin;refine Lib.wpList_append_own_string _ rfl _ _ 22 9 rfl w.heap.size 5 i0 underlying22 underlying9 hi I J L _ _ _ rfl u x rfl X Y d.size ?_;intro v' w3 m b Z)
        | (at_builtin;refine Lib.wpList_append_own_string _ rfl _ _ 22 9 rfl w.heap.size 5 i0 underlying22 underlying9 hi I J L _ _ _ rfl l gap rfl V W H ?_;intro vc A y s aa;have q:Below w.heap.size w A:=Below.grown r s H (fun j N=>(l.lt _ N).1);have M:A.ownsRow w.heap.size 5 1 vc (acc++gap.data.toList).length (Lib.byteCells (acc++gap.data.toList)):=Sq acc gap y;have cc:A.cell? (OK t j)=some (.int .i64 (c:Int)):=(q.cell (p:=(OK t j)) D).trans f))
      have S:Below w.heap.size w w3:=Below.grown d b d.size (fun j N=>(u.lt _ N).1);have HO:Hid (w3.ownsRow w.heap.size 5 1 v' ((acc++gap.data.toList)++x.data.toList).length (Lib.byteCells ((acc++gap.data.toList)++x.data.toList))):=Sq _ x m;clear m b;go_wp2;go_roundw;case rel=>exact⟨j+1,_,by go_num,by omega,Q.out,HO.out,S⟩
      case measure=>simp[intOf];omega
    · have Q:Hid (acc=I1 gap xs):=(by rw[Hid,a,List.take_of_length_le OC]);have ac:=Lq (P:=prog) (src:=22) (dst:=9) underlying22 underlying5 underlying9 l;clear a;go_wp2;go_ret;exact⟨by rw[Qq,<- Q.out];rfl,r⟩
end Go.Proofs.YtjlaedokfbcbpaaGreatDoor
