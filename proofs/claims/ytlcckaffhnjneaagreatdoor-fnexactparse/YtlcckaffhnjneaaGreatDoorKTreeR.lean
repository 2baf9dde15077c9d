import Derived.Test.YtlcckaffhnjneaaGreatDoorKTreeM
import Derived.OwnWalk
set_option maxRecDepth 100000
set_option maxHeartbeats 1000000
namespace Go.Proofs.YtlcckaffhnjneaaGreatDoor
open Go.RowKit
def Mill.takenN (d:Mill.Nd) (m:Nat):Mill.Nd:=⟨d.kind,if Mill.uOp d.kind then d.op else 0,if Mill.uType d.kind then d.type else 0,if d.kind=1 then d.n else if d.kind=3 then (if d.n=1 then 1 else 0) else 0,if Mill.uText d.kind then d.text else ⟨#[]⟩,(m:Int)⟩
def Mill.Parts (P:Nat→Prop) (w:World) (d:Mill.Nd) (us:List Value) (e:Ending) (w':World):Prop :=
 ∃ S,e = .returned (.tuple #[Mill.ndV (Mill.takenN d us.length),S])∧Below w.heap.size w w'∧Mill.Sl (fun g=>P g∨(w.heap.size≤g∧g < w'.heap.size)) w' S us.length us
theorem Mill.sl_nil (P:Nat→Prop) (w:World):Mill.Sl P w (.slice none 0 0) 0 []:=⟨none,0,rfl,fun j u hj=>by simp at hj⟩
theorem Mill.sl_one {P:Nat→Prop} {w:World} {B c:Nat} {u:Value} (h:w.cell? ⟨B,0,none⟩=some u) (hP:P B):Mill.Sl P w (.slice (some ⟨B,0,none⟩) 1 c) 1 [u]:=by
 refine ⟨_,_,rfl,fun j v hj=>⟨B,rfl,hP, ?_⟩⟩
 match j,hj with
 | 0,hj=>simp at hj;rw [← hj];exact h
theorem Mill.sl_two {P:Nat→Prop} {w:World} {B c:Nat} {u v:Value} (h:w.cell? ⟨B,0,none⟩=some u) (h1:w.cell? ⟨B,1,none⟩=some v) (hP:P B):Mill.Sl P w (.slice (some ⟨B,0,none⟩) 2 c) 2 [u,v]:=by
 refine ⟨_,_,rfl,fun j z hj=>⟨B,rfl,hP, ?_⟩⟩
 match j,hj with
 | 0,hj=>simp at hj;rw [← hj];exact h
 | 1,hj=>simp at hj;rw [← hj];exact h1
theorem Mill.sl_three {P:Nat→Prop} {w:World} {B c:Nat} {u v z:Value} (h:w.cell? ⟨B,0,none⟩=some u) (h1:w.cell? ⟨B,1,none⟩=some v) (h2:w.cell? ⟨B,2,none⟩=some z) (hP:P B):Mill.Sl P w (.slice (some ⟨B,0,none⟩) 3 c) 3 [u,v,z]:=by
 refine ⟨_,_,rfl,fun j y hj=>⟨B,rfl,hP, ?_⟩⟩
 match j,hj with
 | 0,hj=>simp at hj;rw [← hj];exact h
 | 1,hj=>simp at hj;rw [← hj];exact h1
 | 2,hj=>simp at hj;rw [← hj];exact h2
theorem above_any (c o t y:Int) (x:ByteArray) (k:Int) (a:Option Addr) (n cc:Nat) (w:World) :
  Calls Tryz.prog 177 #[.agg #[.int .i64 c,.int .i64 o,.int .i64 t,.int .i64 y,.string x,.int .i64 k],.slice a n cc] w fun e w'=>e = .returned (.tuple #[.agg #[.int .i64 c,.int .i64 o,.int .i64 t,.int .i64 y,.string x,.int .i64 (n:Int)],.slice a n cc])∧w'=(w.alloc (.cells #[.int .i64 c,.int .i64 o,.int .i64 t,.int .i64 y,.string x,.int .i64 (n:Int)] 43)).alloc (.cells #[.int .i64 c,.int .i64 o,.int .i64 t,.int .i64 y,.string x,.int .i64 (n:Int)] 43):=by
 go_enter Tryz.func177,Tryz.ntmps177
 go_wp2
 exact bodyPost_ret (v:=.tuple #[.agg #[.int .i64 c,.int .i64 o,.int .i64 t,.int .i64 y,.string x,.int .i64 (n:Int)],.slice a n cc]) (by simp [results,Tryz.results177,go_sem]) rfl ⟨rfl,rfl⟩
theorem parts_1 (o t y:Int) (x:ByteArray) (k:Int) (P:Nat→Prop) (w:World) :
  Calls Tryz.prog 184 #[.agg #[.int .i64 t,.int .i64 y]] w fun e w'=>Mill.Parts P w ⟨1,o,t,y,x,k⟩ [] e w':=by
 have HV:Hid (Mill.ndV (Mill.takenN ⟨1,o,t,y,x,k⟩ 0) = .agg #[.int .i64 1,.int .i64 0,.int .i64 t,.int .i64 y,.string ⟨#[]⟩,.int .i64 0]):=by rw [Hid];rfl
 go_enter Tryz.func184,Tryz.ntmps184
 go_wp2
 refine bodyPost_ret (v:=.tuple #[.agg #[.int .i64 1,.int .i64 0,.int .i64 t,.int .i64 y,.string ⟨#[]⟩,.int .i64 0],.slice none 0 0]) (by simp [results,Tryz.results184,go_sem]) rfl ⟨_,by rw [← HV.out];rfl,(by repeat (first | exact Below.refl _ _ | refine Below.alloc ?_ (by first | exact Nat.le_refl _ | (simp only [World.size_alloc];omega)) _)),Mill.sl_nil _ _⟩
theorem parts_2 (o t y:Int) (x:ByteArray) (k:Int) (P:Nat→Prop) (w:World) :
  Calls Tryz.prog 185 #[.agg #[.string x]] w fun e w'=>Mill.Parts P w ⟨2,o,t,y,x,k⟩ [] e w':=by
 have HV:Hid (Mill.ndV (Mill.takenN ⟨2,o,t,y,x,k⟩ 0) = .agg #[.int .i64 2,.int .i64 0,.int .i64 0,.int .i64 0,.string x,.int .i64 0]):=by rw [Hid];rfl
 go_enter Tryz.func185,Tryz.ntmps185
 go_wp2
 refine bodyPost_ret (v:=.tuple #[.agg #[.int .i64 2,.int .i64 0,.int .i64 0,.int .i64 0,.string x,.int .i64 0],.slice none 0 0]) (by simp [results,Tryz.results185,go_sem]) rfl ⟨_,by rw [← HV.out];rfl,(by repeat (first | exact Below.refl _ _ | refine Below.alloc ?_ (by first | exact Nat.le_refl _ | (simp only [World.size_alloc];omega)) _)),Mill.sl_nil _ _⟩
theorem parts_4 (o t y:Int) (x:ByteArray) (k:Int) (P:Nat→Prop) (w:World) :
  Calls Tryz.prog 187 #[.agg #[.string x]] w fun e w'=>Mill.Parts P w ⟨4,o,t,y,x,k⟩ [] e w':=by
 have HV:Hid (Mill.ndV (Mill.takenN ⟨4,o,t,y,x,k⟩ 0) = .agg #[.int .i64 4,.int .i64 0,.int .i64 0,.int .i64 0,.string x,.int .i64 0]):=by rw [Hid];rfl
 go_enter Tryz.func187,Tryz.ntmps187
 go_wp2
 refine bodyPost_ret (v:=.tuple #[.agg #[.int .i64 4,.int .i64 0,.int .i64 0,.int .i64 0,.string x,.int .i64 0],.slice none 0 0]) (by simp [results,Tryz.results187,go_sem]) rfl ⟨_,by rw [← HV.out];rfl,(by repeat (first | exact Below.refl _ _ | refine Below.alloc ?_ (by first | exact Nat.le_refl _ | (simp only [World.size_alloc];omega)) _)),Mill.sl_nil _ _⟩
theorem parts_14 (o t y:Int) (x:ByteArray) (k:Int) (P:Nat→Prop) (w:World) :
  Calls Tryz.prog 195 #[.agg #[]] w fun e w'=>Mill.Parts P w ⟨14,o,t,y,x,k⟩ [] e w':=by
 have HV:Hid (Mill.ndV (Mill.takenN ⟨14,o,t,y,x,k⟩ 0) = .agg #[.int .i64 14,.int .i64 0,.int .i64 0,.int .i64 0,.string ⟨#[]⟩,.int .i64 0]):=by rw [Hid];rfl
 go_enter Tryz.func195,Tryz.ntmps195
 go_wp2
 refine bodyPost_ret (v:=.tuple #[.agg #[.int .i64 14,.int .i64 0,.int .i64 0,.int .i64 0,.string ⟨#[]⟩,.int .i64 0],.slice none 0 0]) (by simp [results,Tryz.results195,go_sem]) rfl ⟨_,by rw [← HV.out];rfl,(by repeat (first | exact Below.refl _ _ | refine Below.alloc ?_ (by first | exact Nat.le_refl _ | (simp only [World.size_alloc];omega)) _)),Mill.sl_nil _ _⟩
theorem parts_15 (o t y:Int) (x:ByteArray) (k:Int) (P:Nat→Prop) (w:World) :
  Calls Tryz.prog 196 #[.agg #[]] w fun e w'=>Mill.Parts P w ⟨15,o,t,y,x,k⟩ [] e w':=by
 have HV:Hid (Mill.ndV (Mill.takenN ⟨15,o,t,y,x,k⟩ 0) = .agg #[.int .i64 15,.int .i64 0,.int .i64 0,.int .i64 0,.string ⟨#[]⟩,.int .i64 0]):=by rw [Hid];rfl
 go_enter Tryz.func196,Tryz.ntmps196
 go_wp2
 refine bodyPost_ret (v:=.tuple #[.agg #[.int .i64 15,.int .i64 0,.int .i64 0,.int .i64 0,.string ⟨#[]⟩,.int .i64 0],.slice none 0 0]) (by simp [results,Tryz.results196,go_sem]) rfl ⟨_,by rw [← HV.out];rfl,(by repeat (first | exact Below.refl _ _ | refine Below.alloc ?_ (by first | exact Nat.le_refl _ | (simp only [World.size_alloc];omega)) _)),Mill.sl_nil _ _⟩
theorem parts_22 (o t y:Int) (x:ByteArray) (k:Int) (P:Nat→Prop) (w:World) :
  Calls Tryz.prog 180 #[.agg #[.string x,.int .i64 t]] w fun e w'=>Mill.Parts P w ⟨22,o,t,y,x,k⟩ [] e w':=by
 have HV:Hid (Mill.ndV (Mill.takenN ⟨22,o,t,y,x,k⟩ 0) = .agg #[.int .i64 22,.int .i64 0,.int .i64 t,.int .i64 0,.string x,.int .i64 0]):=by rw [Hid];rfl
 go_enter Tryz.func180,Tryz.ntmps180
 go_wp2
 refine bodyPost_ret (v:=.tuple #[.agg #[.int .i64 22,.int .i64 0,.int .i64 t,.int .i64 0,.string x,.int .i64 0],.slice none 0 0]) (by simp [results,Tryz.results180,go_sem]) rfl ⟨_,by rw [← HV.out];rfl,(by repeat (first | exact Below.refl _ _ | refine Below.alloc ?_ (by first | exact Nat.le_refl _ | (simp only [World.size_alloc];omega)) _)),Mill.sl_nil _ _⟩
theorem parts_16n (o t y:Int) (x:ByteArray) (k:Int) (P:Nat→Prop) (w:World) :
  Calls Tryz.prog 197 #[.agg #[.nilIface]] w fun e w'=>Mill.Parts P w ⟨16,o,t,y,x,k⟩ [] e w':=by
 have HV:Hid (Mill.ndV (Mill.takenN ⟨16,o,t,y,x,k⟩ 0) = .agg #[.int .i64 16,.int .i64 0,.int .i64 0,.int .i64 0,.string ⟨#[]⟩,.int .i64 0]):=by rw [Hid];rfl
 go_enter Tryz.func197,Tryz.ntmps197
 go_wp2
 refine bodyPost_ret (v:=.tuple #[.agg #[.int .i64 16,.int .i64 0,.int .i64 0,.int .i64 0,.string ⟨#[]⟩,.int .i64 0],.slice none 0 0]) (by simp [results,Tryz.results197,go_sem]) rfl ⟨_,by rw [← HV.out];rfl,(by repeat (first | exact Below.refl _ _ | refine Below.alloc ?_ (by first | exact Nat.le_refl _ | (simp only [World.size_alloc];omega)) _)),Mill.sl_nil _ _⟩
theorem parts_5 (o t y:Int) (x:ByteArray) (k:Int) (tu:TypeId) (yu:Value) (P:Nat→Prop) (w:World) :
  Calls Tryz.prog 188 #[.agg #[.int .i64 o,.iface tu yu]] w fun e w'=>Mill.Parts P w ⟨5,o,t,y,x,k⟩ [.iface tu yu] e w':=by
 have HV:Hid (Mill.ndV (Mill.takenN ⟨5,o,t,y,x,k⟩ 1) = .agg #[.int .i64 5,.int .i64 o,.int .i64 0,.int .i64 0,.string ⟨#[]⟩,.int .i64 1]):=by rw [Hid];rfl
 go_enter Tryz.func188,Tryz.ntmps188
 go_wp2_with (go_at_call 177;refine (above_any _ _ _ _ _ _ _ _ _ _).mono ?_;rintro e w' ⟨rfl,rfl⟩)
 refine bodyPost_ret (v:=.tuple #[.agg #[.int .i64 5,.int .i64 o,.int .i64 0,.int .i64 0,.string ⟨#[]⟩,.int .i64 1],.slice (some ⟨w.heap.size+1+1,0,none⟩) 1 1]) (by simp [results,Tryz.results188,go_sem]) rfl ⟨_,by rw [← HV.out];rfl,(by repeat (first | exact Below.refl _ _ | refine Below.alloc ?_ (by first | exact Nat.le_refl _ | (simp only [World.size_alloc];omega)) _)),Mill.sl_one (by simp [go_sem]) (.inr (by simp only [World.size_alloc];omega))⟩
theorem parts_9 (o t y:Int) (x:ByteArray) (k:Int) (tu:TypeId) (yu:Value) (P:Nat→Prop) (w:World) :
  Calls Tryz.prog 192 #[.agg #[.int .i64 t,.iface tu yu]] w fun e w'=>Mill.Parts P w ⟨9,o,t,y,x,k⟩ [.iface tu yu] e w':=by
 have HV:Hid (Mill.ndV (Mill.takenN ⟨9,o,t,y,x,k⟩ 1) = .agg #[.int .i64 9,.int .i64 0,.int .i64 t,.int .i64 0,.string ⟨#[]⟩,.int .i64 1]):=by rw [Hid];rfl
 go_enter Tryz.func192,Tryz.ntmps192
 go_wp2_with (go_at_call 177;refine (above_any _ _ _ _ _ _ _ _ _ _).mono ?_;rintro e w' ⟨rfl,rfl⟩)
 refine bodyPost_ret (v:=.tuple #[.agg #[.int .i64 9,.int .i64 0,.int .i64 t,.int .i64 0,.string ⟨#[]⟩,.int .i64 1],.slice (some ⟨w.heap.size+1+1,0,none⟩) 1 1]) (by simp [results,Tryz.results192,go_sem]) rfl ⟨_,by rw [← HV.out];rfl,(by repeat (first | exact Below.refl _ _ | refine Below.alloc ?_ (by first | exact Nat.le_refl _ | (simp only [World.size_alloc];omega)) _)),Mill.sl_one (by simp [go_sem]) (.inr (by simp only [World.size_alloc];omega))⟩
theorem parts_10 (o t y:Int) (x:ByteArray) (k:Int) (tu:TypeId) (yu:Value) (P:Nat→Prop) (w:World) :
  Calls Tryz.prog 193 #[.agg #[.string x,.iface tu yu]] w fun e w'=>Mill.Parts P w ⟨10,o,t,y,x,k⟩ [.iface tu yu] e w':=by
 have HV:Hid (Mill.ndV (Mill.takenN ⟨10,o,t,y,x,k⟩ 1) = .agg #[.int .i64 10,.int .i64 0,.int .i64 0,.int .i64 0,.string x,.int .i64 1]):=by rw [Hid];rfl
 go_enter Tryz.func193,Tryz.ntmps193
 go_wp2_with (go_at_call 177;refine (above_any _ _ _ _ _ _ _ _ _ _).mono ?_;rintro e w' ⟨rfl,rfl⟩)
 refine bodyPost_ret (v:=.tuple #[.agg #[.int .i64 10,.int .i64 0,.int .i64 0,.int .i64 0,.string x,.int .i64 1],.slice (some ⟨w.heap.size+1+1,0,none⟩) 1 1]) (by simp [results,Tryz.results193,go_sem]) rfl ⟨_,by rw [← HV.out];rfl,(by repeat (first | exact Below.refl _ _ | refine Below.alloc ?_ (by first | exact Nat.le_refl _ | (simp only [World.size_alloc];omega)) _)),Mill.sl_one (by simp [go_sem]) (.inr (by simp only [World.size_alloc];omega))⟩
theorem parts_11 (o t y:Int) (x:ByteArray) (k:Int) (tu:TypeId) (yu:Value) (P:Nat→Prop) (w:World) :
  Calls Tryz.prog 194 #[.agg #[.string x,.iface tu yu]] w fun e w'=>Mill.Parts P w ⟨11,o,t,y,x,k⟩ [.iface tu yu] e w':=by
 have HV:Hid (Mill.ndV (Mill.takenN ⟨11,o,t,y,x,k⟩ 1) = .agg #[.int .i64 11,.int .i64 0,.int .i64 0,.int .i64 0,.string x,.int .i64 1]):=by rw [Hid];rfl
 go_enter Tryz.func194,Tryz.ntmps194
 go_wp2_with (go_at_call 177;refine (above_any _ _ _ _ _ _ _ _ _ _).mono ?_;rintro e w' ⟨rfl,rfl⟩)
 refine bodyPost_ret (v:=.tuple #[.agg #[.int .i64 11,.int .i64 0,.int .i64 0,.int .i64 0,.string x,.int .i64 1],.slice (some ⟨w.heap.size+1+1,0,none⟩) 1 1]) (by simp [results,Tryz.results194,go_sem]) rfl ⟨_,by rw [← HV.out];rfl,(by repeat (first | exact Below.refl _ _ | refine Below.alloc ?_ (by first | exact Nat.le_refl _ | (simp only [World.size_alloc];omega)) _)),Mill.sl_one (by simp [go_sem]) (.inr (by simp only [World.size_alloc];omega))⟩
theorem parts_16 (o t y:Int) (x:ByteArray) (k:Int) (tu:TypeId) (yu:Value) (P:Nat→Prop) (w:World) :
  Calls Tryz.prog 197 #[.agg #[.iface tu yu]] w fun e w'=>Mill.Parts P w ⟨16,o,t,y,x,k⟩ [.iface tu yu] e w':=by
 have HV:Hid (Mill.ndV (Mill.takenN ⟨16,o,t,y,x,k⟩ 1) = .agg #[.int .i64 16,.int .i64 0,.int .i64 0,.int .i64 0,.string ⟨#[]⟩,.int .i64 1]):=by rw [Hid];rfl
 go_enter Tryz.func197,Tryz.ntmps197
 go_wp2_with (go_at_call 177;refine (above_any _ _ _ _ _ _ _ _ _ _).mono ?_;rintro e w' ⟨rfl,rfl⟩)
 refine bodyPost_ret (v:=.tuple #[.agg #[.int .i64 16,.int .i64 0,.int .i64 0,.int .i64 0,.string ⟨#[]⟩,.int .i64 1],.slice (some ⟨w.heap.size+1+1,0,none⟩) 1 1]) (by simp [results,Tryz.results197,go_sem]) rfl ⟨_,by rw [← HV.out];rfl,(by repeat (first | exact Below.refl _ _ | refine Below.alloc ?_ (by first | exact Nat.le_refl _ | (simp only [World.size_alloc];omega)) _)),Mill.sl_one (by simp [go_sem]) (.inr (by simp only [World.size_alloc];omega))⟩
theorem parts_17 (o t y:Int) (x:ByteArray) (k:Int) (tu:TypeId) (yu:Value) (P:Nat→Prop) (w:World) :
  Calls Tryz.prog 198 #[.agg #[.iface tu yu]] w fun e w'=>Mill.Parts P w ⟨17,o,t,y,x,k⟩ [.iface tu yu] e w':=by
 have HV:Hid (Mill.ndV (Mill.takenN ⟨17,o,t,y,x,k⟩ 1) = .agg #[.int .i64 17,.int .i64 0,.int .i64 0,.int .i64 0,.string ⟨#[]⟩,.int .i64 1]):=by rw [Hid];rfl
 go_enter Tryz.func198,Tryz.ntmps198
 go_wp2_with (go_at_call 177;refine (above_any _ _ _ _ _ _ _ _ _ _).mono ?_;rintro e w' ⟨rfl,rfl⟩)
 refine bodyPost_ret (v:=.tuple #[.agg #[.int .i64 17,.int .i64 0,.int .i64 0,.int .i64 0,.string ⟨#[]⟩,.int .i64 1],.slice (some ⟨w.heap.size+1+1,0,none⟩) 1 1]) (by simp [results,Tryz.results198,go_sem]) rfl ⟨_,by rw [← HV.out];rfl,(by repeat (first | exact Below.refl _ _ | refine Below.alloc ?_ (by first | exact Nat.le_refl _ | (simp only [World.size_alloc];omega)) _)),Mill.sl_one (by simp [go_sem]) (.inr (by simp only [World.size_alloc];omega))⟩
theorem parts_19 (o t y:Int) (x:ByteArray) (k:Int) (tu:TypeId) (yu:Value) (P:Nat→Prop) (w:World) :
  Calls Tryz.prog 200 #[.agg #[.iface tu yu]] w fun e w'=>Mill.Parts P w ⟨19,o,t,y,x,k⟩ [.iface tu yu] e w':=by
 have HV:Hid (Mill.ndV (Mill.takenN ⟨19,o,t,y,x,k⟩ 1) = .agg #[.int .i64 19,.int .i64 0,.int .i64 0,.int .i64 0,.string ⟨#[]⟩,.int .i64 1]):=by rw [Hid];rfl
 go_enter Tryz.func200,Tryz.ntmps200
 go_wp2_with (go_at_call 177;refine (above_any _ _ _ _ _ _ _ _ _ _).mono ?_;rintro e w' ⟨rfl,rfl⟩)
 refine bodyPost_ret (v:=.tuple #[.agg #[.int .i64 19,.int .i64 0,.int .i64 0,.int .i64 0,.string ⟨#[]⟩,.int .i64 1],.slice (some ⟨w.heap.size+1+1,0,none⟩) 1 1]) (by simp [results,Tryz.results200,go_sem]) rfl ⟨_,by rw [← HV.out];rfl,(by repeat (first | exact Below.refl _ _ | refine Below.alloc ?_ (by first | exact Nat.le_refl _ | (simp only [World.size_alloc];omega)) _)),Mill.sl_one (by simp [go_sem]) (.inr (by simp only [World.size_alloc];omega))⟩
theorem parts_6 (o t y:Int) (x:ByteArray) (k:Int) (tu:TypeId) (yu:Value) (tv:TypeId) (yv:Value) (P:Nat→Prop) (w:World) :
  Calls Tryz.prog 189 #[.agg #[.int .i64 o,.iface tu yu,.iface tv yv]] w fun e w'=>Mill.Parts P w ⟨6,o,t,y,x,k⟩ [.iface tu yu,.iface tv yv] e w':=by
 have HV:Hid (Mill.ndV (Mill.takenN ⟨6,o,t,y,x,k⟩ 2) = .agg #[.int .i64 6,.int .i64 o,.int .i64 0,.int .i64 0,.string ⟨#[]⟩,.int .i64 2]):=by rw [Hid];rfl
 go_enter Tryz.func189,Tryz.ntmps189
 go_wp2_with (go_at_call 177;refine (above_any _ _ _ _ _ _ _ _ _ _).mono ?_;rintro e w' ⟨rfl,rfl⟩)
 refine bodyPost_ret (v:=.tuple #[.agg #[.int .i64 6,.int .i64 o,.int .i64 0,.int .i64 0,.string ⟨#[]⟩,.int .i64 2],.slice (some ⟨w.heap.size+1+1,0,none⟩) 2 2]) (by simp [results,Tryz.results189,go_sem]) rfl ⟨_,by rw [← HV.out];rfl,(by repeat (first | exact Below.refl _ _ | refine Below.alloc ?_ (by first | exact Nat.le_refl _ | (simp only [World.size_alloc];omega)) _)),Mill.sl_two (by simp [go_sem]) (by simp [go_sem]) (.inr (by simp only [World.size_alloc];omega))⟩
theorem parts_18 (o t y:Int) (x:ByteArray) (k:Int) (tu:TypeId) (yu:Value) (tv:TypeId) (yv:Value) (P:Nat→Prop) (w:World) :
  Calls Tryz.prog 199 #[.agg #[.iface tu yu,.iface tv yv]] w fun e w'=>Mill.Parts P w ⟨18,o,t,y,x,k⟩ [.iface tu yu,.iface tv yv] e w':=by
 have HV:Hid (Mill.ndV (Mill.takenN ⟨18,o,t,y,x,k⟩ 2) = .agg #[.int .i64 18,.int .i64 0,.int .i64 0,.int .i64 0,.string ⟨#[]⟩,.int .i64 2]):=by rw [Hid];rfl
 go_enter Tryz.func199,Tryz.ntmps199
 go_wp2_with (go_at_call 177;refine (above_any _ _ _ _ _ _ _ _ _ _).mono ?_;rintro e w' ⟨rfl,rfl⟩)
 refine bodyPost_ret (v:=.tuple #[.agg #[.int .i64 18,.int .i64 0,.int .i64 0,.int .i64 0,.string ⟨#[]⟩,.int .i64 2],.slice (some ⟨w.heap.size+1+1,0,none⟩) 2 2]) (by simp [results,Tryz.results199,go_sem]) rfl ⟨_,by rw [← HV.out];rfl,(by repeat (first | exact Below.refl _ _ | refine Below.alloc ?_ (by first | exact Nat.le_refl _ | (simp only [World.size_alloc];omega)) _)),Mill.sl_two (by simp [go_sem]) (by simp [go_sem]) (.inr (by simp only [World.size_alloc];omega))⟩
theorem parts_13 (o t y:Int) (x:ByteArray) (k:Int) (tu:TypeId) (yu:Value) (sa:Option Addr) (sn sc:Nat) (P:Nat→Prop) (w:World) :
  Calls Tryz.prog 183 #[.agg #[.iface tu yu,.slice sa sn sc]] w fun e w'=>Mill.Parts P w ⟨13,o,t,y,x,k⟩ [.iface tu yu,Mill.blV (.slice sa sn sc)] e w':=by
 have HV:Hid (Mill.ndV (Mill.takenN ⟨13,o,t,y,x,k⟩ 2) = .agg #[.int .i64 13,.int .i64 0,.int .i64 0,.int .i64 0,.string ⟨#[]⟩,.int .i64 2]):=by rw [Hid];rfl
 go_enter Tryz.func183,Tryz.ntmps183
 go_wp2_with (go_at_call 177;refine (above_any _ _ _ _ _ _ _ _ _ _).mono ?_;rintro e w' ⟨rfl,rfl⟩)
 refine bodyPost_ret (v:=.tuple #[.agg #[.int .i64 13,.int .i64 0,.int .i64 0,.int .i64 0,.string ⟨#[]⟩,.int .i64 2],.slice (some ⟨w.heap.size+1+1,0,none⟩) 2 2]) (by simp [results,Tryz.results183,go_sem]) rfl ⟨_,by rw [← HV.out];rfl,(by repeat (first | exact Below.refl _ _ | refine Below.alloc ?_ (by first | exact Nat.le_refl _ | (simp only [World.size_alloc];omega)) _)),Mill.sl_two (by simp [go_sem]) (by simp [go_sem,Mill.blV]) (.inr (by simp only [World.size_alloc];omega))⟩
theorem parts_12n (o t y:Int) (x:ByteArray) (k:Int) (tu:TypeId) (yu:Value) (sa:Option Addr) (sn sc:Nat) (P:Nat→Prop) (w:World) :
  Calls Tryz.prog 182 #[.agg #[.iface tu yu,.slice sa sn sc,.nilIface]] w fun e w'=>Mill.Parts P w ⟨12,o,t,y,x,k⟩ [.iface tu yu,Mill.blV (.slice sa sn sc)] e w':=by
 have HV:Hid (Mill.ndV (Mill.takenN ⟨12,o,t,y,x,k⟩ 2) = .agg #[.int .i64 12,.int .i64 0,.int .i64 0,.int .i64 0,.string ⟨#[]⟩,.int .i64 2]):=by rw [Hid];rfl
 go_enter Tryz.func182,Tryz.ntmps182
 go_wp2_with (go_at_call 177;refine (above_any _ _ _ _ _ _ _ _ _ _).mono ?_;rintro e w' ⟨rfl,rfl⟩)
 refine bodyPost_ret (v:=.tuple #[.agg #[.int .i64 12,.int .i64 0,.int .i64 0,.int .i64 0,.string ⟨#[]⟩,.int .i64 2],.slice (some ⟨w.heap.size+1+1,0,none⟩) 2 2]) (by simp [results,Tryz.results182,go_sem]) rfl ⟨_,by rw [← HV.out];rfl,(by repeat (first | exact Below.refl _ _ | refine Below.alloc ?_ (by first | exact Nat.le_refl _ | (simp only [World.size_alloc];omega)) _)),Mill.sl_two (by simp [go_sem]) (by simp [go_sem,Mill.blV]) (.inr (by simp only [World.size_alloc];omega))⟩
theorem parts_12 (o t y:Int) (x:ByteArray) (k:Int) (tu:TypeId) (yu:Value) (sa:Option Addr) (sn sc:Nat) (tv:TypeId) (yv:Value) (P:Nat→Prop) (w:World) :
  Calls Tryz.prog 182 #[.agg #[.iface tu yu,.slice sa sn sc,.iface tv yv]] w fun e w'=>Mill.Parts P w ⟨12,o,t,y,x,k⟩ [.iface tu yu,Mill.blV (.slice sa sn sc),.iface tv yv] e w':=by
 have HV:Hid (Mill.ndV (Mill.takenN ⟨12,o,t,y,x,k⟩ 3) = .agg #[.int .i64 12,.int .i64 0,.int .i64 0,.int .i64 0,.string ⟨#[]⟩,.int .i64 3]):=by rw [Hid];rfl
 go_enter Tryz.func182,Tryz.ntmps182
 go_wp2_with (go_at_call 177;refine (above_any _ _ _ _ _ _ _ _ _ _).mono ?_;rintro e w' ⟨rfl,rfl⟩)
 refine bodyPost_ret (v:=.tuple #[.agg #[.int .i64 12,.int .i64 0,.int .i64 0,.int .i64 0,.string ⟨#[]⟩,.int .i64 3],.slice (some ⟨w.heap.size+1+1,0,none⟩) 3 3]) (by simp [results,Tryz.results182,go_sem]) rfl ⟨_,by rw [← HV.out];rfl,(by repeat (first | exact Below.refl _ _ | refine Below.alloc ?_ (by first | exact Nat.le_refl _ | (simp only [World.size_alloc];omega)) _)),Mill.sl_three (by simp [go_sem]) (by simp [go_sem,Mill.blV]) (by simp [go_sem]) (.inr (by simp only [World.size_alloc];omega))⟩
theorem parts_20 (o t y:Int) (x:ByteArray) (k:Int) (nm:ByteArray) (sa:Option Addr) (sn sc:Nat) (P:Nat→Prop) (w:World) :
  Calls Tryz.prog 201 #[.agg #[.string nm,.slice sa sn sc]] w fun e w'=>Mill.Parts P w ⟨20,o,t,y,x,k⟩ [.iface 168 (.agg #[.string nm,.slice sa sn sc])] e w':=by
 have HV:Hid (Mill.ndV (Mill.takenN ⟨20,o,t,y,x,k⟩ 1) = .agg #[.int .i64 20,.int .i64 0,.int .i64 0,.int .i64 0,.string ⟨#[]⟩,.int .i64 1]):=by rw [Hid];rfl
 go_enter Tryz.func201,Tryz.ntmps201
 go_wp2_with (go_at_call 177;refine (above_any _ _ _ _ _ _ _ _ _ _).mono ?_;rintro e w' ⟨rfl,rfl⟩)
 refine bodyPost_ret (v:=.tuple #[.agg #[.int .i64 20,.int .i64 0,.int .i64 0,.int .i64 0,.string ⟨#[]⟩,.int .i64 1],.slice (some ⟨w.heap.size+1+1,0,none⟩) 1 1]) (by simp [results,Tryz.results201,go_sem]) rfl ⟨_,by rw [← HV.out];rfl,(by repeat (first | exact Below.refl _ _ | refine Below.alloc ?_ (by first | exact Nat.le_refl _ | (simp only [World.size_alloc];omega)) _)),Mill.sl_one (by simp [go_sem]) (.inr (by simp only [World.size_alloc];omega))⟩
theorem parts_3t (o t y:Int) (x:ByteArray) (k:Int) (hy:y=1) (P:Nat→Prop) (w:World) :
  Calls Tryz.prog 186 #[.agg #[.bool true]] w fun e w'=>Mill.Parts P w ⟨3,o,t,y,x,k⟩ [] e w':=by
 have HV:Hid (Mill.ndV (Mill.takenN ⟨3,o,t,y,x,k⟩ 0) = .agg #[.int .i64 3,.int .i64 0,.int .i64 0,.int .i64 1,.string ⟨#[]⟩,.int .i64 0]):=by rw [Hid];simp [Mill.ndV,Mill.takenN,Mill.uOp,Mill.uType,Mill.uText,Mill.named,hy]
 clear hy
 go_enter Tryz.func186,Tryz.ntmps186
 go_wp2
 refine bodyPost_ret (v:=.tuple #[.agg #[.int .i64 3,.int .i64 0,.int .i64 0,.int .i64 1,.string ⟨#[]⟩,.int .i64 0],.slice none 0 0]) (by simp [results,Tryz.results186,go_sem]) rfl ⟨_,by rw [← HV.out];rfl,(by repeat (first | exact Below.refl _ _ | refine Below.alloc ?_ (by first | exact Nat.le_refl _ | (simp only [World.size_alloc];omega)) _)),Mill.sl_nil _ _⟩
theorem parts_3f (o t y:Int) (x:ByteArray) (k:Int) (hy:y≠1) (P:Nat→Prop) (w:World) :
  Calls Tryz.prog 186 #[.agg #[.bool false]] w fun e w'=>Mill.Parts P w ⟨3,o,t,y,x,k⟩ [] e w':=by
 have HV:Hid (Mill.ndV (Mill.takenN ⟨3,o,t,y,x,k⟩ 0) = .agg #[.int .i64 3,.int .i64 0,.int .i64 0,.int .i64 0,.string ⟨#[]⟩,.int .i64 0]):=by rw [Hid];simp [Mill.ndV,Mill.takenN,Mill.uOp,Mill.uType,Mill.uText,Mill.named,hy]
 clear hy
 go_enter Tryz.func186,Tryz.ntmps186
 go_wp2
 refine bodyPost_ret (v:=.tuple #[.agg #[.int .i64 3,.int .i64 0,.int .i64 0,.int .i64 0,.string ⟨#[]⟩,.int .i64 0],.slice none 0 0]) (by simp [results,Tryz.results186,go_sem]) rfl ⟨_,by rw [← HV.out];rfl,(by repeat (first | exact Below.refl _ _ | refine Below.alloc ?_ (by first | exact Nat.le_refl _ | (simp only [World.size_alloc];omega)) _)),Mill.sl_nil _ _⟩
theorem parts_7 (o t y:Int) (x:ByteArray) (k:Int) (a:Option Addr) (n c:Nat) (us:List Value) (P:Nat→Prop) (w:World) (hP:∀ g,P g→g < w.heap.size) (hu:us.length=n) (hS:Mill.Sl P w (.slice a n c) n us) :
  Calls Tryz.prog 190 #[.agg #[.string x,.slice a n c]] w fun e w'=>Mill.Parts P w ⟨7,o,t,y,x,k⟩ us e w':=by
 have HV:Hid (Mill.ndV (Mill.takenN ⟨7,o,t,y,x,k⟩ n) = .agg #[.int .i64 7,.int .i64 0,.int .i64 0,.int .i64 0,.string x,.int .i64 (n:Int)]):=by rw [Hid];rfl
 go_enter Tryz.func190,Tryz.ntmps190
 go_wp2_with (go_at_call 177;refine (above_any _ _ _ _ _ _ _ _ _ _).mono ?_;rintro e w' ⟨rfl,rfl⟩)
 refine bodyPost_ret (v:=.tuple #[.agg #[.int .i64 7,.int .i64 0,.int .i64 0,.int .i64 0,.string x,.int .i64 (n:Int)],.slice a n c]) (by simp [results,Tryz.results190,go_sem]) rfl ⟨_,by rw [hu,← HV.out],(by repeat (first | exact Below.refl _ _ | refine Below.alloc ?_ (by first | exact Nat.le_refl _ | (simp only [World.size_alloc];omega)) _)), ?_⟩
 rw [hu]
 refine hS.below (fun g h => .inl h) (fun g h => ?_)
 have:=hP g h
 repeat (first | rfl | rw [Below.heap_alloc _ _ _ (by simp only [World.size_alloc];omega)] | rw [Below.heap_alloc _ _ _ this])
theorem parts_8 (o t y:Int) (x:ByteArray) (k:Int) (a:Option Addr) (n c:Nat) (us:List Value) (P:Nat→Prop) (w:World) (hP:∀ g,P g→g < w.heap.size) (hu:us.length=n) (hS:Mill.Sl P w (.slice a n c) n us) :
  Calls Tryz.prog 191 #[.agg #[.int .i64 o,.slice a n c]] w fun e w'=>Mill.Parts P w ⟨8,o,t,y,x,k⟩ us e w':=by
 have HV:Hid (Mill.ndV (Mill.takenN ⟨8,o,t,y,x,k⟩ n) = .agg #[.int .i64 8,.int .i64 o,.int .i64 0,.int .i64 0,.string ⟨#[]⟩,.int .i64 (n:Int)]):=by rw [Hid];rfl
 go_enter Tryz.func191,Tryz.ntmps191
 go_wp2_with (go_at_call 177;refine (above_any _ _ _ _ _ _ _ _ _ _).mono ?_;rintro e w' ⟨rfl,rfl⟩)
 refine bodyPost_ret (v:=.tuple #[.agg #[.int .i64 8,.int .i64 o,.int .i64 0,.int .i64 0,.string ⟨#[]⟩,.int .i64 (n:Int)],.slice a n c]) (by simp [results,Tryz.results191,go_sem]) rfl ⟨_,by rw [hu,← HV.out],(by repeat (first | exact Below.refl _ _ | refine Below.alloc ?_ (by first | exact Nat.le_refl _ | (simp only [World.size_alloc];omega)) _)), ?_⟩
 rw [hu]
 refine hS.below (fun g h => .inl h) (fun g h => ?_)
 have:=hP g h
 repeat (first | rfl | rw [Below.heap_alloc _ _ _ (by simp only [World.size_alloc];omega)] | rw [Below.heap_alloc _ _ _ this])
theorem parts_21 (o t y:Int) (x:ByteArray) (k:Int) (a:Option Addr) (n c:Nat) (us:List Value) (P:Nat→Prop) (w:World) (hP:∀ g,P g→g < w.heap.size) (hu:us.length=n) (hS:Mill.Sl P w (.slice a n c) n us) :
  Calls Tryz.prog 178 #[.agg #[.slice a n c]] w fun e w'=>Mill.Parts P w ⟨21,o,t,y,x,k⟩ us e w':=by
 have HV:Hid (Mill.ndV (Mill.takenN ⟨21,o,t,y,x,k⟩ n) = .agg #[.int .i64 21,.int .i64 0,.int .i64 0,.int .i64 0,.string ⟨#[]⟩,.int .i64 (n:Int)]):=by rw [Hid];rfl
 go_enter Tryz.func178,Tryz.ntmps178
 go_wp2_with (go_at_call 177;refine (above_any _ _ _ _ _ _ _ _ _ _).mono ?_;rintro e w' ⟨rfl,rfl⟩)
 refine bodyPost_ret (v:=.tuple #[.agg #[.int .i64 21,.int .i64 0,.int .i64 0,.int .i64 0,.string ⟨#[]⟩,.int .i64 (n:Int)],.slice a n c]) (by simp [results,Tryz.results178,go_sem]) rfl ⟨_,by rw [hu,← HV.out],(by repeat (first | exact Below.refl _ _ | refine Below.alloc ?_ (by first | exact Nat.le_refl _ | (simp only [World.size_alloc];omega)) _)), ?_⟩
 rw [hu]
 refine hS.below (fun g h => .inl h) (fun g h => ?_)
 have:=hP g h
 repeat (first | rfl | rw [Below.heap_alloc _ _ _ (by simp only [World.size_alloc];omega)] | rw [Below.heap_alloc _ _ _ this])
end Go.Proofs.YtlcckaffhnjneaaGreatDoor
