import Derived.Test.YtjlaedokfbcbpaaGreatDoorKGenU
set_option maxRecDepth 100000
set_option maxHeartbeats 8000000
namespace Go.Proofs.YtjlaedokfbcbpaaGreatDoor
open Go.RowKit Proofs.Tryz
theorem Qgk (B g R n m:Nat) (HC:Hid (Us B g R m)) (HL:Hid (Ij B g R n)) (hmn:m=n+1) (hm1:m<=100):Ut B g R m:=by
 intro d hd bg P w nv D fv F bw Q bd size h hP;have HD:Hid (d=(m:Int)):=by rw[Hid];omega
 have HM:Hid (((m:Int) - 1).toNat=n):=by rw[Hid];omega
 have a7:¬ d<=0:=OC
 have bt:=Kk n;have bz:Tn m=11 * Cj n:=by rw[hmn];rfl
 have bp:Cj m=12 * Cj n:=by rw[hmn];exact Qbz n
 rw[bp]at hP |-
 clear bg bp hmn;exact DdGenUx12
theorem Qiy (B g R:Nat) (n:Nat):n<=100->Ut B g R n:=by
 induction n using Nat.strongRecOn with
 | ind n ih =>
  intro a;cases n with
  | zero=>exact Qgl B g R
  | succ k =>
   have b:∀ m,m<=k->Ij B g R m:=fun m hm=>Qad B g R m (ih m OC OC)
   exact Qgk B g R k (k+1) (Qif B g R (k+1) a (fun m hm=>b m OC)) (b k ON) rfl a
theorem Qfk (B g R n:Nat) (hn:n<=100):Ij B g R n:=Qad B g R n (Qiy B g R n hn)
end Go.Proofs.YtjlaedokfbcbpaaGreatDoor
