import Derived.Test.YtahibkjkpmdhgaaGreatDoorKTk
import Derived.Test.YtahibkjkpmdhgaaGreatDoorKBltA
set_option maxRecDepth 100000
set_option maxHeartbeats 1000000
namespace Go.Proofs.YtahibkjkpmdhgaaGreatDoor
open Go.RowKit
def Ih (f:Dg):Bool:=Do f.name && decide ((f.text.size:Int)<=3000)
def Nl (fs:List Dg) (i:Nat):Bool :=
 match fs[i]? with
 | none=>true
 | some x=>Ih x && (match i with|0=>true|k+1=>(match fs[k]? with|none=>true|some y=>Op.bytesLess y.name.toList x.name.toList))
def Ho (fs:List Dg):Nat->Bool
 | 0=>true
 | n+1=>Ho fs n && Nl fs n
def G5 (fs:List Dg) (m:Nat):Bool:=decide (fs.length<=m) && Ho fs fs.length
theorem L0 (fs:List Dg) (i n:Nat) (h:i < n) (hi:Nl fs i=false):Ho fs n=false:=by
 induction n with
 | zero=>omega
 | succ n ih =>
  rw[Ho];by_cases e:i=n
  ·subst e;rw[hi,Bool.and_false]
  ·rw[ih Ou,Bool.false_and]
theorem Tq (fs:List Dg) (m:Nat) (h:¬ (fs.length<=m)):G5 fs m=false:=by unfold G5;simp only[h,decide_false,Bool.false_and]
theorem Qan (fs:List Dg) (m:Nat) (h:fs.length<=m):G5 fs m=Ho fs fs.length:=by unfold G5;simp only[h,decide_true,Bool.true_and]
theorem Nm {fs:List Dg} {i:Nat} (hi:i < fs.length) (h:Ih fs[i]=false):Nl fs i=false:=by
 unfold Nl;rw[List.getElem?_eq_getElem hi];simp only[h,Bool.false_and]
theorem Rn {fs:List Dg} (hi:0 < fs.length) (h:Ih fs[0]=true):Nl fs 0=true:=by
 unfold Nl;rw[List.getElem?_eq_getElem hi];simp only[h,Bool.true_and]
theorem Lb {fs:List Dg} {k:Nat} (hi:k+1 < fs.length) (h:Ih fs[k+1]=true):Nl fs (k+1)=Op.bytesLess (fs[k]'Ou).name.toList fs[k+1].name.toList:=by
 unfold Nl;rw[List.getElem?_eq_getElem hi];simp only[h,Bool.true_and];rw[List.getElem?_eq_getElem (by omega:k < fs.length)]
theorem Wd (a b:ByteArray) (ha:a.size<=1048576) (_hb:b.size<=1048576) (w:World) :
  Calls Tryz.prog 61 #[.agg #[.string a,.string b]] w fun e w'=>e = .returned (.bool (Ih ⟨a,b⟩))/\OH w w':=by
 unfold Ih;simp only;cases hn:Do a with
 | false =>
  have c:Hid (Do a=false):=hn;clear hn;go_enter Tryz.func61,Tryz.ntmps61;go_wp2_with (go_at_call 90;refine(Io _ false c ha _).mono ?_;rintro e d ⟨rfl,rfl⟩);all_goals go_ret
  all_goals exact⟨rfl,(Below.refl _ w).alloc (Nat.le_refl _) _⟩
 | true =>
  have c:Hid (Do a=true):=hn;clear hn;by_cases h:(b.size:Int)<=3000
  ·go_enter Tryz.func61,Tryz.ntmps61;go_wp2_with (go_at_call 90;refine(Io _ true c ha _).mono ?_;rintro e d ⟨rfl,rfl⟩);all_goals go_ret
   all_goals exact⟨by simp[h],(Below.refl _ w).alloc (Nat.le_refl _) _⟩
  ·go_enter Tryz.func61,Tryz.ntmps61;go_wp2_with (go_at_call 90;refine(Io _ true c ha _).mono ?_;rintro e d ⟨rfl,rfl⟩);all_goals go_ret
   all_goals exact⟨by simp,(Below.refl _ w).alloc (Nat.le_refl _) _⟩
theorem Qv (fs:List Dg) (m:Nat) (v:Value) (w:World) (hm:m<=1000) (hn:fs.length<=1048576) (hx:∀ d ∈ fs,d.name.size<=1048576/\d.text.size<=1048576) (hN:Gc w v fs) :
  Calls Tryz.prog 20 #[v,.int .i64 (m:Int)] w fun e w'=>e = .returned (.bool (G5 fs m))/\OH w w':=by
 obtain⟨p,K,rfl,J⟩:=hN;obtain⟨n,y⟩:∃ n,Hid (fs.length=n):=⟨_,(rfl:fs.length=_)⟩;have x:Hid (∀ i (M:i < fs.length),∃ g o,p=some (OI g o)/\g < w.heap.size/\w.cell? (OI g (o+i * 2))=some (.string fs[i].name)/\w.cell? (OI g (o+i * 2+1))=some (.string fs[i].text)):=J;clear J;rw[y.out]at hn;by_cases h1:n<=m
 ·have r:Hid (G5 fs m=Ho fs n):=by have e:=Qan fs m (by rw[y.out];exact h1);rw[y.out]at e;exact e
  simp only[y.out];have P:decide (m < n)=false:=by simpa using h1
  go_enter Tryz.func20,Tryz.ntmps20;go_wp2;go_loopw [5] (fun t wr => ∃ i:Nat,i<=n/\t = .int .i64 (i:Int)/\Ho fs i=true/\OH w wr) (fun t _=>n - (intOf t).toNat);case atStart=>exact⟨0,by omega,rfl,rfl,Below.refl _ _⟩
  case round =>
   obtain⟨i,M,rfl,h,c⟩:=hrel;have W:=c.size;by_cases hlt:i < n
   ·have j:i < fs.length:=(by rw[y.out];exact hlt);obtain⟨g,o,rfl,G,b,a⟩:=x.out i j;have V:wr.cell? (OI g (o+i * 2))=some (.string fs[i].name):=(by rw[c.cell (p:=(OI g (o+i * 2))) G,b]);have R:wr.cell? (OI g (o+i * 2+1))=some (.string fs[i].text):=(by rw[c.cell (p:=(OI g (o+i * 2+1))) G,a]);obtain⟨u,T⟩:=hx fs[i] (List.getElem_mem j);cases hnm:Do fs[i].name with
    | false =>
     have s:Hid (G5 fs m=false):=(by rw[Hid,r.out];exact L0 fs i n hlt (Nm j (by unfold Ih;rw[hnm];rfl)));have A:Hid (Do fs[i].name=false):=hnm;generalize fs[i]=xi at *;clear b a x hnm h r;go_wp2_with fail;go_quiet (first|(go_at_call 53;refine Ee (Hb _ false A u _)));go_wp2;go_ret;exact⟨Bv s.out.symm,Aj _ c⟩
    | true =>
     have A:Hid (Do fs[i].name=true):=hnm;by_cases hT:(fs[i].text.size:Int)<=3000
     ·have l:Ih fs[i]=true:=(by unfold Ih;rw[hnm];simp[hT]);have D:decide ((3000:Int) < (fs[i].text.size:Int))=false:=(by simpa using hT);have E:¬ ((3000:Int) < (fs[i].text.size:Int)):=Ou;have F:¬ (3000 < fs[i].text.size):=Ou;clear hT;by_cases hi0:i=0
      ·have s:Hid (Ho fs (i+1)=true):=(by subst hi0;rw[Hid,Ho,h,Rn j l];rfl);have C:decide (0 < i)=false:=(by simpa using hi0);have z:¬ (0 < i):=Ou;clear l hi0;generalize fs[i]=xi at *;clear b a x hnm h r;go_wp2_with fail;go_quiet (first|(go_at_call 53;refine Ee (Hb _ true A u _)));go_wp2;go_roundw;case rel=>exact⟨i+1,by omega,by go_num,s.out,Aj _ c⟩
       case measure=>simp[intOf];omega
      ·obtain⟨k,q⟩:∃ k,i=k+1:=⟨i - 1,by omega⟩;have I:k < fs.length:=Ou;have O:k < n:=Ou;have N:IntKind.i64.wrap ((i:Int) - 1)=(k:Int):=(by rw[wrap_small _ Ou Ou];omega);have C:decide (0 < i)=true:=(by simpa using (by omega:0 < i));have z:0 < i:=Ou;have S:IntKind.i64.wrap (k:Int)=(k:Int):=wrap_small _ Ou Ou;have B:Hid (i=k+1):=q;clear q;obtain⟨U,X,L,_,f,_⟩:=x.out k I;cases L
       have Q:wr.cell? (OI g (o+k * 2))=some (.string fs[k].name):=(by rw[c.cell (p:=(OI g (o+k * 2))) G,f]);cases hL:Op.bytesLess fs[k].name.toList fs[i].name.toList with
       | true =>
        have s:Hid (Ho fs (i+1)=true):=(by have q:=B.out;subst q;rw[Hid,Ho,h,Lb j l,hL];rfl);clear l;generalize fs[i]=xi at *;generalize fs[k]=xk at *;clear b a f x hnm h r;go_wp2_with fail;go_quiet (first|(go_at_call 53;refine Ee (Hb _ true A u _)));go_wp2;go_roundw;case rel=>exact⟨i+1,by omega,by go_num,s.out,Aj _ c⟩
        case measure=>simp[intOf];omega
       | false =>
        have s:Hid (G5 fs m=false):=(by rw[Hid,r.out];have q:=B.out;subst q;exact L0 fs (k+1) n hlt (by rw[Lb j l,hL]));clear l;generalize fs[i]=xi at *;generalize fs[k]=xk at *;clear b a f x hnm h r;go_wp2_with fail;go_quiet (first|(go_at_call 53;refine Ee (Hb _ true A u _)));go_wp2;go_ret;exact⟨Bv s.out.symm,Aj _ c⟩
     ·have s:Hid (G5 fs m=false):=(by rw[Hid,r.out];exact L0 fs i n hlt (Nm j (by unfold Ih;rw[hnm];simp;omega)));have D:decide ((3000:Int) < (fs[i].text.size:Int))=true:=(by simpa using hT);have E:((3000:Int) < (fs[i].text.size:Int)):=Ou;have F:(3000 < fs[i].text.size):=Ou;clear hT;generalize fs[i]=xi at *;clear b a x hnm h r;go_wp2_with fail;go_quiet (first|(go_at_call 53;refine Ee (Hb _ true A u _)));go_wp2;go_ret;exact⟨Bv s.out.symm,Aj _ c⟩
   ·have H:i=n:=Ou;subst H;have s:Hid (G5 fs m=true):=(by rw[Hid,r.out];exact h);clear x h r;go_wp2;go_ret;exact⟨Bv s.out.symm,c⟩
 ·have r:Hid (G5 fs m=false):=Tq fs m (by rw[y.out];exact h1);simp only[y.out];go_enter Tryz.func20,Tryz.ntmps20;go_wp2;go_ret;exact⟨Bv r.out.symm,Below.refl _ w⟩
theorem S7 (fs:List Dg) (m:Nat) (v:Value) (w:World) (hm:m<=1000) (hn:fs.length<=1048576) (hx:∀ d ∈ fs,d.name.size<=1048576/\d.text.size<=1048576) (hN:Gc w v fs) :
  Calls Tryz.prog 32 #[v,.int .i64 (m:Int)] w fun e w'=>e = .returned (.bool (G5 fs m))/\OH w w':=by
 obtain⟨p,H,rfl,X⟩:=hN;obtain⟨n,B⟩:∃ n,Hid (fs.length=n):=⟨_,(rfl:fs.length=_)⟩;have z:Hid (∀ i (Z:i < fs.length),∃ g o,p=some (OI g o)/\g < w.heap.size/\w.cell? (OI g (o+i * 2))=some (.string fs[i].name)/\w.cell? (OI g (o+i * 2+1))=some (.string fs[i].text)):=X;clear X;rw[B.out]at hn;by_cases h1:n<=m
 ·have x:Hid (G5 fs m=Ho fs n):=by have e:=Qan fs m (by rw[B.out];exact h1);rw[B.out]at e;exact e
  simp only[B.out];have ac:decide (m < n)=false:=by simpa using h1
  go_enter Tryz.func32,Tryz.ntmps32;go_wp2;go_loopw [13] (fun t wr => ∃ i:Nat,i<=n/\t = .int .i64 (i:Int)/\Ho fs i=true/\OH w wr) (fun t _=>n - (intOf t).toNat);case atStart=>exact⟨0,by omega,rfl,rfl,Below.refl _ _⟩
  case round =>
   obtain⟨i,Z,rfl,l,h⟩:=hrel;have P:=h.size;by_cases hlt:i < n
   ·have s:i < fs.length:=(by rw[B.out];exact hlt);obtain⟨g,o,rfl,Q,f,c⟩:=z.out i s;have hq:wr.cell? (OI g (o+i * 2))=some (.string fs[i].name):=(by rw[h.cell (p:=(OI g (o+i * 2))) Q,f]);have ad:wr.cell? (OI g (o+i * 2+1))=some (.string fs[i].text):=(by rw[h.cell (p:=(OI g (o+i * 2+1))) Q,c]);obtain⟨U,V⟩:=hx fs[i] (List.getElem_mem s);have O:Hid (∀ (b:Bool) (w:World),Ih fs[i]=b->Calls Tryz.prog 61 #[.agg #[.string fs[i].name,.string fs[i].text]] w fun e w'=>e = .returned (.bool b)/\OH w w'):=fun b w hb=>by
     have:=Wd fs[i].name fs[i].text U V w;rw[<- hb];exact this
    cases hgd:Ih fs[i] with
    | false =>
     have y:Hid (G5 fs m=false):=(by rw[Hid,x.out];exact L0 fs i n hlt (Nm s hgd));have G:Hid (∀ (w:World),Calls Tryz.prog 61 #[.agg #[.string fs[i].name,.string fs[i].text]] w fun e w'=>e = .returned (.bool false)/\OH w w'):=fun w=>O.out false w hgd
     clear O hgd;generalize fs[i]=xi at *;clear f c z l x;have u:Hid (∀ W,Below (wr.heap.size+1) (wr.alloc (.cells #[.string xi.name,.string xi.text] 55)) W->W.cell? (OK wr 0)=some (.string xi.name)/\W.cell? (OK wr 1)=some (.string xi.text)):=fun W hW=>Lj hW
     go_wp2_with fail;refine wp_region_held_drew (S:=(fun W=>Below (wr.heap.size+1) (wr.alloc (.cells #[.string xi.name,.string xi.text] 55)) W/\W.cell? (OK wr 0)=some (.string xi.name)/\W.cell? (OK wr 1)=some (.string xi.text))) OA (⟨(Below.refl _ _).drew,u.out _ (Below.refl _ _).drew⟩) (fun hHeld => ?_);refine Tk 0 (.agg #[.string xi.name,.string xi.text]) ?_;(try simp[Act.put]);refine wpAnyH_ready (rs:=[1]) OA OB ?_;refine AllReadyH.cons rfl (fun K hK => ?_) AllReadyH.nil;go_simp;(go_at_call 61;refine(G.out _).mono ?_;rintro e E ⟨rfl,q⟩;have a:Below (wr.heap.size+1) (wr.alloc (.cells #[.string xi.name,.string xi.text] 55)) E:=Below.trans hHeld.1 (q.mono OB));go_wp2;refine hK.out _ _ (⟨a,u.out _ a⟩) (fun hHeld => ?_);clear hK;(try simp[Act.put]);refine Tk 2 (.bool true) ?_;refine Tk 3 (.bool true) ?_;refine Ts 4 ?_;(try simp[Act.put]);refine Ts 5 ?_;refine Ts 6 ?_;refine Ts 7 ?_;(try simp[Act.put]);refine Ts 8 ?_;refine Ts 9 ?_;refine Ts 10 ?_;(try simp[Act.put]);refine Ts 11 ?_;refine Ts 12 ?_;refine Ts 13 ?_;(try simp[Act.put]);refine Ts 14 ?_;refine Ts 15 ?_;refine Ts 16 ?_;(try simp[Act.put]);refine Tk 17 (.bool true) ?_;(try simp[Act.put]);refine wpAnyH_done OA ?_ _;go_wp2;go_ret;exact⟨Bv y.out.symm,(h.alloc P _).trans (a.mono Ou)⟩
    | true =>
     have G:Hid (∀ (w:World),Calls Tryz.prog 61 #[.agg #[.string fs[i].name,.string fs[i].text]] w fun e w'=>e = .returned (.bool true)/\OH w w'):=fun w=>O.out true w hgd
     clear O;by_cases hi0:i=0
     ·have y:Hid (Ho fs (i+1)=true):=(by subst hi0;rw[Hid,Ho,l,Rn s hgd];rfl);have M:decide (0 < i)=false:=(by simpa using hi0);have D:¬ (0 < i):=Ou;clear hgd hi0;generalize fs[i]=xi at *;clear f c z l x;have u:Hid (∀ W,Below (wr.heap.size+1) (wr.alloc (.cells #[.string xi.name,.string xi.text] 55)) W->W.cell? (OK wr 0)=some (.string xi.name)/\W.cell? (OK wr 1)=some (.string xi.text)):=fun W hW=>Lj hW
      go_wp2_with fail;refine wp_region_held_drew (S:=(fun W=>Below (wr.heap.size+1) (wr.alloc (.cells #[.string xi.name,.string xi.text] 55)) W/\W.cell? (OK wr 0)=some (.string xi.name)/\W.cell? (OK wr 1)=some (.string xi.text))) OA (⟨(Below.refl _ _).drew,u.out _ (Below.refl _ _).drew⟩) (fun hHeld => ?_);refine Tk 0 (.agg #[.string xi.name,.string xi.text]) ?_;(try simp[Act.put]);refine wpAnyH_ready (rs:=[1]) OA OB ?_;refine AllReadyH.cons rfl (fun K hK => ?_) AllReadyH.nil;go_simp;(go_at_call 61;refine(G.out _).mono ?_;rintro e E ⟨rfl,q⟩;have a:Below (wr.heap.size+1) (wr.alloc (.cells #[.string xi.name,.string xi.text] 55)) E:=Below.trans hHeld.1 (q.mono OB));go_wp2;refine hK.out _ _ (⟨a,u.out _ a⟩) (fun hHeld => ?_);clear hK;(try simp[Act.put]);refine Tk 2 (.bool false) ?_;refine Tk 3 (.bool false) ?_;refine Tk 4 (.int .i64 (i:Int)) ?_;(try simp[Act.put]);refine Tk 5 (.bool false) ?_;refine Tk 6 (.bool false) ?_;refine Ts 7 ?_;(try simp[Act.put]);refine Ts 8 ?_;refine Ts 9 ?_;refine Ts 10 ?_;(try simp[Act.put]);refine Ts 11 ?_;refine Ts 12 ?_;refine Ts 13 ?_;(try simp[Act.put]);refine Ts 14 ?_;refine Ts 15 ?_;refine Tk 16 (.bool false) ?_;(try simp[Act.put]);refine Tk 17 (.bool false) ?_;(try simp[Act.put]);refine wpAnyH_done OA ?_ _;go_wp2;go_roundw;case rel=>exact⟨i+1,by omega,by go_num,y.out,(h.alloc P _).trans (a.mono Ou)⟩
      case measure=>simp[intOf];omega
     ·obtain⟨k,r⟩:∃ k,i=k+1:=⟨i - 1,by omega⟩;have T:k < fs.length:=Ou;have ab:k < n:=Ou;have aa:(i:Int) - 1=(k:Int):=Ou;have M:decide (0 < i)=true:=(by simpa using (by omega:0 < i));have D:0 < i:=Ou;have ae:IntKind.i64.wrap (k:Int)=(k:Int):=wrap_small _ Ou Ou;have F:Hid (i=k+1):=r;clear r;obtain⟨g2,o2,Y,_,j,_⟩:=z.out k T;cases Y
      have N:wr.cell? (OI g (o+k * 2))=some (.string fs[k].name):=(by rw[h.cell (p:=(OI g (o+k * 2))) Q,j]);have L:g < wr.heap.size:=Ou;cases hL:Op.bytesLess fs[k].name.toList fs[i].name.toList with
      | true =>
       have y:Hid (Ho fs (i+1)=true):=(by have r:=F.out;subst r;rw[Hid,Ho,l,Lb s hgd,hL];rfl);clear hgd;generalize fs[i]=xi at *;generalize fs[k]=xk at *;have A:Hid ((Op.bytesLess xi.name.toList xk.name.toList || xi.name.toList == xk.name.toList)=false):=(by rw[Hid,Jl,hL];rfl);clear f c j z l x;obtain⟨I,J⟩:=Bool.or_eq_false_iff.1 A.out;have u:Hid (∀ W,Below (wr.heap.size+1) (wr.alloc (.cells #[.string xi.name,.string xi.text] 55)) W->W.cell? (OK wr 0)=some (.string xi.name)/\W.cell? (OK wr 1)=some (.string xi.text)/\W.cell? (OI g (o+k * 2))=some (.string xk.name)):=fun W hW=>⟨(Lj hW).1,(Lj hW).2,by rw[(((Below.refl _ wr).alloc (Nat.le_refl _) _).trans (hW.mono Ou)).cell (p:=(OI g (o+k * 2))) L];exact N⟩
       go_wp2_with fail;refine wp_region_held_drew (S:=(fun W=>Below (wr.heap.size+1) (wr.alloc (.cells #[.string xi.name,.string xi.text] 55)) W/\W.cell? (OK wr 0)=some (.string xi.name)/\W.cell? (OK wr 1)=some (.string xi.text)/\W.cell? (OI g (o+k * 2))=some (.string xk.name))) OA (⟨(Below.refl _ _).drew,u.out _ (Below.refl _ _).drew⟩) (fun hHeld => ?_);refine Tk 0 (.agg #[.string xi.name,.string xi.text]) ?_;(try simp[Act.put]);refine wpAnyH_ready (rs:=[1]) OA OB ?_;refine AllReadyH.cons rfl (fun K hK => ?_) AllReadyH.nil;go_simp;(go_at_call 61;refine(G.out _).mono ?_;rintro e E ⟨rfl,q⟩;have a:Below (wr.heap.size+1) (wr.alloc (.cells #[.string xi.name,.string xi.text] 55)) E:=Below.trans hHeld.1 (q.mono OB));go_wp2;refine hK.out _ _ (⟨a,u.out _ a⟩) (fun hHeld => ?_);clear hK;(try simp[Act.put]);refine Tk 2 (.bool false) ?_;refine Tk 3 (.bool false) ?_;refine Tk 4 (.int .i64 (i:Int)) ?_;(try simp[Act.put]);refine Tk 5 (.bool true) ?_;refine Tk 6 (.bool true) ?_;refine Tk 7 (.pointer (some (OK wr 0))) ?_;(try simp[Act.put]);refine Tk 8 (.string xi.name) ?_;refine Tk 9 (.slice (some (OI g o)) n H) ?_;refine Tk 10 (.int .i64 (i:Int)) ?_;(try simp[Act.put]);refine Tk 11 (.int .i64 (k:Int)) ?_;refine Tk 12 (.pointer (some (OI g (o+k * 2)))) ?_;refine Tk 13 (.pointer (some (OI g (o+k * 2)))) ?_;(try simp[Act.put]);refine Tk 14 (.string xk.name) ?_;refine Tk 15 (.bool false) ?_;refine Tk 16 (.bool false) ?_;(try simp[Act.put]);refine Tk 17 (.bool false) ?_;(try simp[Act.put]);refine wpAnyH_done OA ?_ _;go_wp2;go_roundw;case rel=>exact⟨i+1,by omega,by go_num,y.out,(h.alloc P _).trans (a.mono Ou)⟩
       case measure=>simp[intOf];omega
      | false =>
       have y:Hid (G5 fs m=false):=(by rw[Hid,x.out];have r:=F.out;subst r;exact L0 fs (k+1) n hlt (by rw[Lb s hgd,hL]));clear hgd;generalize fs[i]=xi at *;generalize fs[k]=xk at *;have A:Hid ((Op.bytesLess xi.name.toList xk.name.toList || xi.name.toList == xk.name.toList)=true):=(by rw[Hid,Jl,hL];rfl);clear f c j z l x;have C:=A.out;cases I:Op.bytesLess xi.name.toList xk.name.toList <;> cases J:(xi.name.toList == xk.name.toList)
       all_goals try (exfalso;rw[I,J]at C;exact absurd C Ov)
       all_goals try clear C
       all_goals
        have u:Hid (∀ W,Below (wr.heap.size+1) (wr.alloc (.cells #[.string xi.name,.string xi.text] 55)) W->W.cell? (OK wr 0)=some (.string xi.name)/\W.cell? (OK wr 1)=some (.string xi.text)/\W.cell? (OI g (o+k * 2))=some (.string xk.name)):=fun W hW=>⟨(Lj hW).1,(Lj hW).2,by rw[(((Below.refl _ wr).alloc (Nat.le_refl _) _).trans (hW.mono Ou)).cell (p:=(OI g (o+k * 2))) L];exact N⟩
        go_wp2_with fail;refine wp_region_held_drew (S:=(fun W=>Below (wr.heap.size+1) (wr.alloc (.cells #[.string xi.name,.string xi.text] 55)) W/\W.cell? (OK wr 0)=some (.string xi.name)/\W.cell? (OK wr 1)=some (.string xi.text)/\W.cell? (OI g (o+k * 2))=some (.string xk.name))) OA (⟨(Below.refl _ _).drew,u.out _ (Below.refl _ _).drew⟩) (fun hHeld => ?_);refine Tk 0 (.agg #[.string xi.name,.string xi.text]) ?_;(try simp[Act.put]);refine wpAnyH_ready (rs:=[1]) OA OB ?_;refine AllReadyH.cons rfl (fun K hK => ?_) AllReadyH.nil;go_simp;(go_at_call 61;refine(G.out _).mono ?_;rintro e E ⟨rfl,q⟩;have a:Below (wr.heap.size+1) (wr.alloc (.cells #[.string xi.name,.string xi.text] 55)) E:=Below.trans hHeld.1 (q.mono OB));go_wp2;refine hK.out _ _ (⟨a,u.out _ a⟩) (fun hHeld => ?_);clear hK;(try simp[Act.put]);refine Tk 2 (.bool false) ?_;refine Tk 3 (.bool false) ?_;refine Tk 4 (.int .i64 (i:Int)) ?_;(try simp[Act.put]);refine Tk 5 (.bool true) ?_;refine Tk 6 (.bool true) ?_;refine Tk 7 (.pointer (some (OK wr 0))) ?_;(try simp[Act.put]);refine Tk 8 (.string xi.name) ?_;refine Tk 9 (.slice (some (OI g o)) n H) ?_;refine Tk 10 (.int .i64 (i:Int)) ?_;(try simp[Act.put]);refine Tk 11 (.int .i64 (k:Int)) ?_;refine Tk 12 (.pointer (some (OI g (o+k * 2)))) ?_;refine Tk 13 (.pointer (some (OI g (o+k * 2)))) ?_;(try simp[Act.put]);refine Tk 14 (.string xk.name) ?_;refine Tk 15 (.bool true) ?_;refine Tk 16 (.bool true) ?_;(try simp[Act.put]);refine Tk 17 (.bool true) ?_;(try simp[Act.put]);refine wpAnyH_done OA ?_ _;go_wp2;go_ret;exact⟨Bv y.out.symm,(h.alloc P _).trans (a.mono Ou)⟩
   ·have R:i=n:=Ou;subst R;have y:Hid (G5 fs m=true):=(by rw[Hid,x.out];exact l);clear z l x;go_wp2;go_ret;exact⟨Bv y.out.symm,h⟩
 ·have x:Hid (G5 fs m=false):=Tq fs m (by rw[B.out];exact h1);simp only[B.out];go_enter Tryz.func32,Tryz.ntmps32;go_wp2;go_ret;exact⟨Bv x.out.symm,Below.refl _ w⟩
end Go.Proofs.YtahibkjkpmdhgaaGreatDoor
