/- MRbJ, MOrdC, MOrdD, MOrdE, MOrdFw, MWhM. -/
import Derived.Test.YtpbgpdmffejdgaaGreatDoorG01
import Derived.Test.YtpbgpdmffejdgaaGreatDoorG26
import Derived.Test.YtpbgpdmffejdgaaGreatDoorG41
import Derived.Test.YtpbgpdmffejdgaaGreatDoorG43
import Derived.Laws.BitsAllLaws
namespace Go.Proofs.YtpbgpdmffejdgaaGreatDoor
set_option maxHeartbeats 4000000
set_option maxRecDepth 100000
open Go.RowKit
def rn (w a : Int) : Prop:=Hid (∀ W,Calls Tryz.prog 172 #[.int .i64 w,.int .u64 a] W fun e w' => ∃ s,e = .returned s ∧ Below W.heap.size W w')
def atg (s : ByteArray) (w a b : Int) (z : Bool) : Prop:=(s = ⟨#[101,113,122]⟩ ∧ z = decide (a = 0)) ∨ (s = ⟨#[101,113]⟩ ∧ z = decide (a = b)) ∨ (s = ⟨#[110,101]⟩ ∧ z = !decide (a = b)) ∨ (s = ⟨#[108,116,95,117]⟩ ∧ z = decide (a < b)) ∨ (s = ⟨#[103,116,95,117]⟩ ∧ z = decide (b < a)) ∨ (s = ⟨#[108,101,95,117]⟩ ∧ z = decide (a ≤ b)) ∨ (s = ⟨#[103,101,95,117]⟩ ∧ z = decide (b ≤ a)) ∨ (s = ⟨#[108,116,95,115]⟩ ∧ ∃ y,z = y ∧ Ct 254 #[.int .i64 w,.int .u64 a,.int .u64 b] (.bool y)) ∨ (s = ⟨#[103,116,95,115]⟩ ∧ ∃ y,z = y ∧ Ct 254 #[.int .i64 w,.int .u64 b,.int .u64 a] (.bool y)) ∨ (s = ⟨#[108,101,95,115]⟩ ∧ ∃ y,z = !y ∧ Ct 254 #[.int .i64 w,.int .u64 b,.int .u64 a] (.bool y)) ∨ (s = ⟨#[103,101,95,115]⟩ ∧ ∃ y,z = !y ∧ Ct 254 #[.int .i64 w,.int .u64 a,.int .u64 b] (.bool y))
theorem gv {s : ByteArray} {w a b : Int} {z : Bool} (H1 : rn w a) (H2 : rn w b) (h : atg s w a b z) : Ct 199 #[.string s,.int .i64 w,.int .u64 a,.int .u64 b] (.int .u64 (tru z)):=by
 refine ab (fun W => ?_)
 have HB:=rf W
 rcases h with ⟨rfl,rfl⟩ | ⟨rfl,rfl⟩ | ⟨rfl,rfl⟩ | ⟨rfl,rfl⟩ | ⟨rfl,rfl⟩ | ⟨rfl,rfl⟩ | ⟨rfl,rfl⟩ | ⟨rfl,y,rfl,HL⟩ | ⟨rfl,y,rfl,HL⟩ | ⟨rfl,y,rfl,HL⟩ | ⟨rfl,y,rfl,HL⟩
 all_goals
  go_enter Tryz.func199,Tryz.ntmps199
  go_wp2_with fail
  refine (aa H1 _).mono ?_
  rintro _ wb1 ⟨s1,rfl,hb⟩
  have HB:=bt HB hb
  clear hb
  go_wp2_with fail
  refine (aa H2 _).mono ?_
  rintro _ wb2 ⟨s2,rfl,hb⟩
  have HB:=bt HB hb
  clear hb
  go_wp2_with fail
  try
   refine cg0 HL HB fun wq HB => ?_
   go_wp2_with fail
  refine (aa (tn _) _).mono ?_
  rintro _ wq ⟨rfl,hb⟩
  have HB:=bt HB hb
  clear hb
  go_wp2_with fail
  go_ret
  exact ⟨by first | rfl | (congr 3; simp; done) | (simp [tru]; done),aa HB⟩
set_option maxHeartbeats 2000000
open Go.Proofs.YtpbgpdmffejdgaaGreatDoor.W
theorem atu {x y z : Int} (W : World) (h : bits .or .u64 x y = z) :
 Calls Tryz.prog 166 #[.int .u64 x,.int .u64 y] W fun r W' => r = .returned (.int .u64 z) ∧ Below W.heap.size W W':=by
 go_enter Tryz.func166,Tryz.ntmps166
 go_wp2_with fail
 go_ret
 exact ⟨rfl,Below.refl _ _⟩
theorem aqn {x y z : Int} (W : World) (h : bits .and .u64 x y = z) :
 Calls Tryz.prog 167 #[.int .u64 x,.int .u64 y] W fun r W' => r = .returned (.int .u64 z) ∧ Below W.heap.size W W':=by
 go_enter Tryz.func167,Tryz.ntmps167
 go_wp2_with fail
 go_ret
 exact ⟨rfl,Below.refl _ _⟩
theorem sO {w x y V : Int} (W : World) (H1 : Ct 68 #[.int .i64 w,.int .u64 x,.int .u64 y] (.bool true)) (HC : Ct 17 #[.int .i64 w,.int .u64 x] (.int .u64 V)) :
 Calls Tryz.prog 165 #[.int .i64 w,.int .u64 x,.int .u64 y,.func (.func 68) #[] #[],.func (.func 166) #[] #[]] W fun r W' => r = .returned (.int .u64 V) ∧ Below W.heap.size W W':=by
 go_enter Tryz.func165,Tryz.ntmps165
 go_wp2_with fail
 refine cg1 H1 fun w1 hb => ?_
 have HB:=ab hb
 clear hb
 go_wp2_with fail
 refine cg0 HC HB fun w2 HB => ?_
 go_wp2_with fail
 go_ret
 exact ⟨rfl,aa HB⟩
theorem sP {w x y V : Int} (W : World) (H1 : Ct 68 #[.int .i64 w,.int .u64 x,.int .u64 y] (.bool false)) (H2 : Ct 68 #[.int .i64 w,.int .u64 y,.int .u64 x] (.bool true)) (HC : Ct 17 #[.int .i64 w,.int .u64 y] (.int .u64 V)) :
 Calls Tryz.prog 165 #[.int .i64 w,.int .u64 x,.int .u64 y,.func (.func 68) #[] #[],.func (.func 166) #[] #[]] W fun r W' => r = .returned (.int .u64 V) ∧ Below W.heap.size W W':=by
 go_enter Tryz.func165,Tryz.ntmps165
 go_wp2_with fail
 refine cg1 H1 fun w1 hb => ?_
 have HB:=ab hb
 clear hb
 go_wp2_with fail
 refine cg0 H2 HB fun w2 HB => ?_
 go_wp2_with fail
 refine cg0 HC HB fun w3 HB => ?_
 go_wp2_with fail
 go_ret
 exact ⟨rfl,aa HB⟩
theorem sQ {w x y z V : Int} (W : World) (H1 : Ct 68 #[.int .i64 w,.int .u64 x,.int .u64 y] (.bool false)) (H2 : Ct 68 #[.int .i64 w,.int .u64 y,.int .u64 x] (.bool false)) (H3 : Ct 66 #[.int .i64 w,.int .u64 x,.int .u64 y] (.bool true)) (HO : Ct 166 #[.int .u64 x,.int .u64 y] (.int .u64 z)) (HC : Ct 17 #[.int .i64 w,.int .u64 z] (.int .u64 V)) :
 Calls Tryz.prog 165 #[.int .i64 w,.int .u64 x,.int .u64 y,.func (.func 68) #[] #[],.func (.func 166) #[] #[]] W fun r W' => r = .returned (.int .u64 V) ∧ Below W.heap.size W W':=by
 go_enter Tryz.func165,Tryz.ntmps165
 go_wp2_with fail
 refine cg1 H1 fun w1 hb => ?_
 have HB:=ab hb
 clear hb
 go_wp2_with fail
 refine cg0 H2 HB fun w2 HB => ?_
 go_wp2_with fail
 refine cg0 H3 HB fun w3 HB => ?_
 go_wp2_with fail
 refine cg0 HO HB fun w4 HB => ?_
 go_wp2_with fail
 refine cg0 HC HB fun w5 HB => ?_
 go_wp2_with fail
 go_ret
 exact ⟨rfl,aa HB⟩
theorem l7 {w x y V : Int} (W : World) (H1 : Ct 68 #[.int .i64 w,.int .u64 x,.int .u64 y] (.bool false)) (H2 : Ct 68 #[.int .i64 w,.int .u64 y,.int .u64 x] (.bool false)) (H3 : Ct 66 #[.int .i64 w,.int .u64 x,.int .u64 y] (.bool false)) (HN : Ct 156 #[.int .i64 w] (.int .u64 V)) :
 Calls Tryz.prog 165 #[.int .i64 w,.int .u64 x,.int .u64 y,.func (.func 68) #[] #[],.func (.func 166) #[] #[]] W fun r W' => r = .returned (.int .u64 V) ∧ Below W.heap.size W W':=by
 go_enter Tryz.func165,Tryz.ntmps165
 go_wp2_with fail
 refine cg1 H1 fun w1 hb => ?_
 have HB:=ab hb
 clear hb
 go_wp2_with fail
 refine cg0 H2 HB fun w2 HB => ?_
 go_wp2_with fail
 refine cg0 H3 HB fun w3 HB => ?_
 go_wp2_with fail
 refine cg0 HN HB fun w4 HB => ?_
 go_wp2_with fail
 go_ret
 exact ⟨rfl,aa HB⟩
theorem ql {w x y V : Int} (W : World) (H : Ct 165 #[.int .i64 w,.int .u64 x,.int .u64 y,.func (.func 68) #[] #[],.func (.func 166) #[] #[]] (.int .u64 V)) :
 Calls Tryz.prog 89 #[.int .i64 w,.int .u64 x,.int .u64 y] W fun r W' => r = .returned (.int .u64 V) ∧ Below W.heap.size W W':=by
 go_enter Tryz.func89,Tryz.ntmps89
 go_wp2_with fail
 refine cg1 H fun w1 hb => ?_
 have HB:=ab hb
 clear hb
 go_wp2_with fail
 go_ret
 exact ⟨rfl,aa HB⟩
theorem sR {w x y V : Int} (W : World) (H1 : Ct 69 #[.int .i64 w,.int .u64 x,.int .u64 y] (.bool true)) (HC : Ct 17 #[.int .i64 w,.int .u64 x] (.int .u64 V)) :
 Calls Tryz.prog 165 #[.int .i64 w,.int .u64 x,.int .u64 y,.func (.func 69) #[] #[],.func (.func 167) #[] #[]] W fun r W' => r = .returned (.int .u64 V) ∧ Below W.heap.size W W':=by
 go_enter Tryz.func165,Tryz.ntmps165
 go_wp2_with fail
 refine cg1 H1 fun w1 hb => ?_
 have HB:=ab hb
 clear hb
 go_wp2_with fail
 refine cg0 HC HB fun w2 HB => ?_
 go_wp2_with fail
 go_ret
 exact ⟨rfl,aa HB⟩
theorem sS {w x y V : Int} (W : World) (H1 : Ct 69 #[.int .i64 w,.int .u64 x,.int .u64 y] (.bool false)) (H2 : Ct 69 #[.int .i64 w,.int .u64 y,.int .u64 x] (.bool true)) (HC : Ct 17 #[.int .i64 w,.int .u64 y] (.int .u64 V)) :
 Calls Tryz.prog 165 #[.int .i64 w,.int .u64 x,.int .u64 y,.func (.func 69) #[] #[],.func (.func 167) #[] #[]] W fun r W' => r = .returned (.int .u64 V) ∧ Below W.heap.size W W':=by
 go_enter Tryz.func165,Tryz.ntmps165
 go_wp2_with fail
 refine cg1 H1 fun w1 hb => ?_
 have HB:=ab hb
 clear hb
 go_wp2_with fail
 refine cg0 H2 HB fun w2 HB => ?_
 go_wp2_with fail
 refine cg0 HC HB fun w3 HB => ?_
 go_wp2_with fail
 go_ret
 exact ⟨rfl,aa HB⟩
theorem sT {w x y z V : Int} (W : World) (H1 : Ct 69 #[.int .i64 w,.int .u64 x,.int .u64 y] (.bool false)) (H2 : Ct 69 #[.int .i64 w,.int .u64 y,.int .u64 x] (.bool false)) (H3 : Ct 66 #[.int .i64 w,.int .u64 x,.int .u64 y] (.bool true)) (HO : Ct 167 #[.int .u64 x,.int .u64 y] (.int .u64 z)) (HC : Ct 17 #[.int .i64 w,.int .u64 z] (.int .u64 V)) :
 Calls Tryz.prog 165 #[.int .i64 w,.int .u64 x,.int .u64 y,.func (.func 69) #[] #[],.func (.func 167) #[] #[]] W fun r W' => r = .returned (.int .u64 V) ∧ Below W.heap.size W W':=by
 go_enter Tryz.func165,Tryz.ntmps165
 go_wp2_with fail
 refine cg1 H1 fun w1 hb => ?_
 have HB:=ab hb
 clear hb
 go_wp2_with fail
 refine cg0 H2 HB fun w2 HB => ?_
 go_wp2_with fail
 refine cg0 H3 HB fun w3 HB => ?_
 go_wp2_with fail
 refine cg0 HO HB fun w4 HB => ?_
 go_wp2_with fail
 refine cg0 HC HB fun w5 HB => ?_
 go_wp2_with fail
 go_ret
 exact ⟨rfl,aa HB⟩
theorem l8 {w x y V : Int} (W : World) (H1 : Ct 69 #[.int .i64 w,.int .u64 x,.int .u64 y] (.bool false)) (H2 : Ct 69 #[.int .i64 w,.int .u64 y,.int .u64 x] (.bool false)) (H3 : Ct 66 #[.int .i64 w,.int .u64 x,.int .u64 y] (.bool false)) (HN : Ct 156 #[.int .i64 w] (.int .u64 V)) :
 Calls Tryz.prog 165 #[.int .i64 w,.int .u64 x,.int .u64 y,.func (.func 69) #[] #[],.func (.func 167) #[] #[]] W fun r W' => r = .returned (.int .u64 V) ∧ Below W.heap.size W W':=by
 go_enter Tryz.func165,Tryz.ntmps165
 go_wp2_with fail
 refine cg1 H1 fun w1 hb => ?_
 have HB:=ab hb
 clear hb
 go_wp2_with fail
 refine cg0 H2 HB fun w2 HB => ?_
 go_wp2_with fail
 refine cg0 H3 HB fun w3 HB => ?_
 go_wp2_with fail
 refine cg0 HN HB fun w4 HB => ?_
 go_wp2_with fail
 go_ret
 exact ⟨rfl,aa HB⟩
theorem qm {w x y V : Int} (W : World) (H : Ct 165 #[.int .i64 w,.int .u64 x,.int .u64 y,.func (.func 69) #[] #[],.func (.func 167) #[] #[]] (.int .u64 V)) :
 Calls Tryz.prog 90 #[.int .i64 w,.int .u64 x,.int .u64 y] W fun r W' => r = .returned (.int .u64 V) ∧ Below W.heap.size W W':=by
 go_enter Tryz.func90,Tryz.ntmps90
 go_wp2_with fail
 refine cg1 H fun w1 hb => ?_
 have HB:=ab hb
 clear hb
 go_wp2_with fail
 go_ret
 exact ⟨rfl,aa HB⟩
def sc (P Q x : Int) : Int:=if oN P Q x then -(oc P Q x : Int) else (oc P Q x : Int)
def cG (a b : Int) : Int:=if a < b then -1 else if a = b then 0 else 1
def bT (P Q x y : Int) : Int:=if oK P Q x = 3 ∨ oK P Q y = 3 then 2 else cG (sc P Q x) (sc P Q y)
def j8 (f P Q t : Int) (n : Bool) (x y : Int) : Int:=if bT P Q x y = 2 then cM f P Q else if bT P Q x y = t ∨ (bT P Q x y = 0 ∧ sg P Q x = n) then aU f P Q x else aU f P Q y
theorem abp (P Q x : Int) : (x / P % Q == Q - 1 && x % P != 0) = true ↔ oK P Q x = 3:=by
 unfold oK
 by_cases h : x / P % Q = Q - 1
 ·rw [if_pos h,aH h]
  by_cases h2 : x % P = 0
  ·rw [if_pos h2,dJ h2]; simp
  ·rw [if_neg h2,dj h2]; simp
 ·rw [if_neg h,au h]
  simp
  split <;> omega
theorem aql {P Q x : Int} (h : oK P Q x = 3) : (x / P % Q == Q - 1 && x % P != 0) = true:=(abp P Q x).2 h
theorem aqm {P Q x : Int} (h : oK P Q x ≠ 3) : (x / P % Q == Q - 1 && x % P != 0) = false:=by
 cases hh : (x / P % Q == Q - 1 && x % P != 0)
 ·rfl
 ·exact absurd ((abp P Q x).1 hh) h
theorem abq {P Q x : Int} (h : oK P Q x ≠ 3) : oN P Q x = sg P Q x:=by
 unfold oN
 rw [if_neg]
 intro hh
 apply h
 unfold oK
 rw [if_pos hh.1,if_neg hh.2]
theorem qk {k a : Nat} (ha : a < 2 ^ (k + 1)) : a &&& 2 ^ k = 0 ↔ a < 2 ^ k:=by
 constructor
 ·intro h
  refine Decidable.byContradiction fun hn => ?_
  obtain ⟨r,rfl⟩ : ∃ r,a = 2 ^ k + r:=⟨a - 2 ^ k,by omega⟩
  have hr : r < 2 ^ k:=by rw [Nat.pow_succ] at ha; omega
  have h1 : ((2 ^ k + r) &&& 2 ^ k).testBit k = false:=by rw [h]; exact Nat.zero_testBit k
  rw [Nat.testBit_and,Nat.testBit_two_pow_self,Nat.testBit_two_pow_add_eq,Nat.testBit_lt_two_pow hr] at h1
  exact absurd h1 (by decide)
 ·intro h
  apply Nat.eq_of_testBit_eq
  intro i
  rw [Nat.testBit_and,Nat.zero_testBit,Nat.testBit_two_pow]
  by_cases hi : k = i
  ·subst hi
   rw [Nat.testBit_lt_two_pow h]
   rfl
  ·simp [hi]
theorem wZ {w e f P Q b x : Int} (k : Kd w e f P Q b) (h : oK P Q x ≠ 3) :
 ∃ B,bits .andNot .u64 (aU f P Q x) (put f P Q true 0 0) = (oc P Q x : Int) ∧ bits .and .u64 (aU f P Q x) (put f P Q true 0 0) = B ∧ (B != 0) = oN P Q x ∧ (oc P Q x : Int) < 9223372036854775808:=by
 obtain ⟨p1,p2,q1,q2⟩:=k.pos
 obtain ⟨u,v⟩:=cJ (x / P) (show 1 ≤ Q by omega)
 obtain ⟨u',v'⟩:=cJ x (show 1 ≤ P by omega)
 have hn:=abq h
 have hc : ((oc P Q x : Nat) : Int) = x / P % Q * P + x % P:=by
  unfold oc
  have:=Int.mul_nonneg u (show 0 ≤ P by omega)
  omega
 have hcut:=eD k.wd.sz x
 rw [← hcut,hn,eE k.f0,Int.zero_mul,Int.zero_add,Int.zero_add]
 rw [hn] at *
 clear hn hcut h
 generalize x / P % Q = E at *
 generalize x % P = F at *
 generalize sg P Q x = n at *
 generalize oc P Q x = c at *
 rcases k with ⟨-,-,rfl,rfl,rfl,-⟩ | ⟨-,-,rfl,rfl,rfl,-⟩
 ·have hput : put 23 8388608 256 n E F = ((c + (if n then 2147483648 else 0) : Nat) : Int):=by
   unfold put
   cases n <;> simp <;> omega
  have hc2 : c < 2147483648:=by omega
  have ha : c + (if n then 2147483648 else 0) < 2 ^ 32:=by cases n <;> simp <;> omega
  rw [hput,show (8388608 * 256 : Int) = ((2147483648 : Nat) : Int) by decide]
  refine ⟨_,?_,rfl,?_,by omega⟩
  ·rw [u64_andNot_nat _ _ (by omega) (by decide)]
   generalize hA : c + (if n then 2147483648 else 0) = a at *
   have e1 : a &&& 4294967295 = a:=by
    rw [show 4294967295 = 2 ^ 32 - 1 by decide,Nat.and_two_pow_sub_one_eq_mod,Nat.mod_eq_of_lt ha]
   rw [← e1,Nat.and_assoc,show 4294967295 &&& (18446744073709551615 - 2147483648) = 2 ^ 31 - 1 by decide,Nat.and_two_pow_sub_one_eq_mod]
   cases n <;> simp at hA <;> omega
  ·rw [Go.bits_and_u64_nat _ _ (by omega) (by decide)]
   have:=qk (k:=31) (a:=c + (if n then 2147483648 else 0)) ha
   generalize hA : c + (if n then 2147483648 else 0) = a at *
   rw [show 2147483648 = 2 ^ 31 by decide]
   cases n
   ·have : a &&& 2 ^ 31 = 0:=this.2 (by simp at hA; omega)
    rw [this]; rfl
   ·have : ¬ a &&& 2 ^ 31 = 0:=fun hh => by have:=this.1 hh; simp at hA; omega
    exact dj (by omega)
 ·have hput : put 52 4503599627370496 2048 n E F = ((c + (if n then 9223372036854775808 else 0) : Nat) : Int):=by
   unfold put
   cases n <;> simp <;> omega
  have hc2 : c < 9223372036854775808:=by omega
  have ha : c + (if n then 9223372036854775808 else 0) < 2 ^ 64:=by cases n <;> simp <;> omega
  rw [hput,show (4503599627370496 * 2048 : Int) = ((9223372036854775808 : Nat) : Int) by decide]
  refine ⟨_,?_,rfl,?_,by omega⟩
  ·rw [u64_andNot_nat _ _ (by omega) (by decide)]
   generalize hA : c + (if n then 9223372036854775808 else 0) = a at *
   rw [show (18446744073709551615 - 9223372036854775808) = 2 ^ 63 - 1 by decide,Nat.and_two_pow_sub_one_eq_mod]
   cases n <;> simp at hA <;> omega
  ·rw [Go.bits_and_u64_nat _ _ (by omega) (by decide)]
   have:=qk (k:=63) (a:=c + (if n then 9223372036854775808 else 0)) ha
   generalize hA : c + (if n then 9223372036854775808 else 0) = a at *
   rw [show 9223372036854775808 = 2 ^ 63 by decide]
   cases n
   ·have : a &&& 2 ^ 63 = 0:=this.2 (by simp at hA; omega)
    rw [this]; rfl
   ·have : ¬ a &&& 2 ^ 63 = 0:=fun hh => by have:=this.1 hh; simp at hA; omega
    exact dj (by omega)
theorem uB {w e f P Q b : Int} (h : Wd w e f P Q b) (W : World) : Calls Tryz.prog 131 #[.int .i64 w] W fun r W' => r = .returned (.bool (f != 0)) ∧ Below W.heap.size W W':=by
 have:=aqq W (ab (fun W => dS h W))
 have he : (e != 0) = (f != 0):=by
  rcases h with ⟨-,rfl,rfl,-⟩ | ⟨-,rfl,rfl,-⟩ | ⟨-,rfl,rfl,-⟩ <;> rfl
 rw [he] at this
 exact this
theorem uC {w e f P Q b : Int} (k : Kd w e f P Q b) (W : World) : Calls Tryz.prog 131 #[.int .i64 w] W fun r W' => r = .returned (.bool true) ∧ Below W.heap.size W W':=by
 have:=uB k.wd W
 rw [dj k.f0] at this
 exact this
theorem bo {w e f P Q b x : Int} (k : Kd w e f P Q b) (W : World) (x0 : 0 ≤ x) (x1 : x < 18446744073709551616) (h : oK P Q x = 3) : Calls Tryz.prog 205 #[.int .i64 w,.int .u64 x] W fun r W' => r = .returned (.tuple #[.int .i64 0,.bool false]) ∧ Below W.heap.size W W':=by
 have hi:=fun W => kS x k.wd W x0 x1
 rw [aql h] at hi
 exact am4 W (ab (uC k)) (ab hi)
theorem bp {w e f P Q b x : Int} (k : Kd w e f P Q b) (W : World) (x0 : 0 ≤ x) (x1 : x < 18446744073709551616) (h : oK P Q x ≠ 3) : Calls Tryz.prog 205 #[.int .i64 w,.int .u64 x] W fun r W' => r = .returned (.tuple #[.int .i64 (sc P Q x),.bool true]) ∧ Below W.heap.size W W':=by
 have hi:=fun W => kS x k.wd W x0 x1
 rw [aqm h] at hi
 obtain ⟨B,r1,r2,r3,r4⟩:=wZ k h
 unfold sc
 cases hn : oN P Q x
 ·rw [hn] at r3
  exact am5 W (ab (uC k)) (ab hi) (ab (fun W => bE true k.wd W)) (ab (fun W => cw x k.wd W x0 x1)) r1 (aj (by omega) (by omega)) r2 r3
 ·rw [hn] at r3
  exact am6 W (ab (uC k)) (ab hi) (ab (fun W => bE true k.wd W)) (ab (fun W => cw x k.wd W x0 x1)) r1 (aj (by omega) (by omega)) r2 r3 (aj (by omega) (by omega))
theorem ah3 (a b : Int) : (a == b) = (cG a b == 0):=by
 unfold cG
 rcases Int.lt_trichotomy a b with h | h | h
 ·rw [if_pos h,au (by omega)]; rfl
 ·rw [if_neg (by omega),if_pos h,aH h]; rfl
 ·rw [if_neg (by omega),if_neg (by omega),au (by omega)]; rfl
theorem ah4 (a b : Int) : decide (a < b) = (cG a b == -1):=by
 unfold cG
 rcases Int.lt_trichotomy a b with h | h | h
 ·rw [if_pos h,decide_eq_true h]; rfl
 ·rw [if_neg (by omega),if_pos h,decide_eq_false (by omega)]; rfl
 ·rw [if_neg (by omega),if_neg (by omega),decide_eq_false (by omega)]; rfl
theorem ah5 (a b : Int) : decide (b < a) = (cG a b == 1):=by
 unfold cG
 rcases Int.lt_trichotomy a b with h | h | h
 ·rw [if_pos h,decide_eq_false (by omega)]; rfl
 ·rw [if_neg (by omega),if_pos h,decide_eq_false (by omega)]; rfl
 ·rw [if_neg (by omega),if_neg (by omega),decide_eq_true h]; rfl
theorem ah6 (a b : Int) : decide (a ≤ b) = (cG a b == -1 || cG a b == 0):=by
 unfold cG
 rcases Int.lt_trichotomy a b with h | h | h
 ·rw [if_pos h,decide_eq_true (by omega)]; rfl
 ·rw [if_neg (by omega),if_pos h,decide_eq_true (by omega)]; rfl
 ·rw [if_neg (by omega),if_neg (by omega),decide_eq_false (by omega)]; rfl
theorem ah7 (a b : Int) : decide (b ≤ a) = (cG a b == 1 || cG a b == 0):=by
 unfold cG
 rcases Int.lt_trichotomy a b with h | h | h
 ·rw [if_pos h,decide_eq_false (by omega)]; rfl
 ·rw [if_neg (by omega),if_pos h,decide_eq_true (by omega)]; rfl
 ·rw [if_neg (by omega),if_neg (by omega),decide_eq_true (by omega)]; rfl
theorem nZ {w e f P Q b x y : Int} (k : Kd w e f P Q b) (W : World) (x0 : 0 ≤ x) (x1 : x < 18446744073709551616) (y0 : 0 ≤ y) (y1 : y < 18446744073709551616) : Calls Tryz.prog 66 #[.int .i64 w,.int .u64 x,.int .u64 y] W fun r W' => r = .returned (.bool (bT P Q x y == 0)) ∧ Below W.heap.size W W':=by
 unfold bT
 by_cases hx : oK P Q x = 3
 ·rw [if_pos (Or.inl hx)]
  by_cases hy : oK P Q y = 3
  ·exact abx W (ab (fun W => du W (ab (fun W => bo k W x0 x1 hx)) (ab (fun W => bo k W y0 y1 hy))))
  ·exact abx W (ab (fun W => du W (ab (fun W => bo k W x0 x1 hx)) (ab (fun W => bp k W y0 y1 hy))))
 ·by_cases hy : oK P Q y = 3
  ·rw [if_pos (Or.inr hy)]
   exact abx W (ab (fun W => l9 W (ab (fun W => bp k W x0 x1 hx)) (ab (fun W => bo k W y0 y1 hy))))
  ·rw [if_neg (by omega),← ah3]
   exact abx W (ab (fun W => abs W (ab (fun W => bp k W x0 x1 hx)) (ab (fun W => bp k W y0 y1 hy)) (ab (fun W => atv W))))
theorem sK {w e f P Q b x y : Int} (k : Kd w e f P Q b) (W : World) (x0 : 0 ≤ x) (x1 : x < 18446744073709551616) (y0 : 0 ≤ y) (y1 : y < 18446744073709551616) : Calls Tryz.prog 68 #[.int .i64 w,.int .u64 x,.int .u64 y] W fun r W' => r = .returned (.bool (bT P Q x y == -1)) ∧ Below W.heap.size W W':=by
 unfold bT
 by_cases hx : oK P Q x = 3
 ·rw [if_pos (Or.inl hx)]
  by_cases hy : oK P Q y = 3
  ·exact aby W (ab (fun W => du W (ab (fun W => bo k W x0 x1 hx)) (ab (fun W => bo k W y0 y1 hy))))
  ·exact aby W (ab (fun W => du W (ab (fun W => bo k W x0 x1 hx)) (ab (fun W => bp k W y0 y1 hy))))
 ·by_cases hy : oK P Q y = 3
  ·rw [if_pos (Or.inr hy)]
   exact aby W (ab (fun W => l9 W (ab (fun W => bp k W x0 x1 hx)) (ab (fun W => bo k W y0 y1 hy))))
  ·rw [if_neg (by omega),← ah4]
   exact aby W (ab (fun W => abt W (ab (fun W => bp k W x0 x1 hx)) (ab (fun W => bp k W y0 y1 hy)) (ab (fun W => atw W))))
theorem sM {w e f P Q b x y : Int} (k : Kd w e f P Q b) (W : World) (x0 : 0 ≤ x) (x1 : x < 18446744073709551616) (y0 : 0 ≤ y) (y1 : y < 18446744073709551616) : Calls Tryz.prog 69 #[.int .i64 w,.int .u64 x,.int .u64 y] W fun r W' => r = .returned (.bool (bT P Q x y == 1)) ∧ Below W.heap.size W W':=by
 unfold bT
 by_cases hx : oK P Q x = 3
 ·rw [if_pos (Or.inl hx)]
  by_cases hy : oK P Q y = 3
  ·exact abz W (ab (fun W => du W (ab (fun W => bo k W x0 x1 hx)) (ab (fun W => bo k W y0 y1 hy))))
  ·exact abz W (ab (fun W => du W (ab (fun W => bo k W x0 x1 hx)) (ab (fun W => bp k W y0 y1 hy))))
 ·by_cases hy : oK P Q y = 3
  ·rw [if_pos (Or.inr hy)]
   exact abz W (ab (fun W => l9 W (ab (fun W => bp k W x0 x1 hx)) (ab (fun W => bo k W y0 y1 hy))))
  ·rw [if_neg (by omega),← ah5]
   exact abz W (ab (fun W => abu W (ab (fun W => bp k W x0 x1 hx)) (ab (fun W => bp k W y0 y1 hy)) (ab (fun W => atx W))))
theorem am0 {w e f P Q b x y : Int} (k : Kd w e f P Q b) (W : World) (x0 : 0 ≤ x) (x1 : x < 18446744073709551616) (y0 : 0 ≤ y) (y1 : y < 18446744073709551616) : Calls Tryz.prog 70 #[.int .i64 w,.int .u64 x,.int .u64 y] W fun r W' => r = .returned (.bool (bT P Q x y == -1 || bT P Q x y == 0)) ∧ Below W.heap.size W W':=by
 unfold bT
 by_cases hx : oK P Q x = 3
 ·rw [if_pos (Or.inl hx)]
  by_cases hy : oK P Q y = 3
  ·exact ab0 W (ab (fun W => du W (ab (fun W => bo k W x0 x1 hx)) (ab (fun W => bo k W y0 y1 hy))))
  ·exact ab0 W (ab (fun W => du W (ab (fun W => bo k W x0 x1 hx)) (ab (fun W => bp k W y0 y1 hy))))
 ·by_cases hy : oK P Q y = 3
  ·rw [if_pos (Or.inr hy)]
   exact ab0 W (ab (fun W => l9 W (ab (fun W => bp k W x0 x1 hx)) (ab (fun W => bo k W y0 y1 hy))))
  ·rw [if_neg (by omega),← ah6]
   exact ab0 W (ab (fun W => abv W (ab (fun W => bp k W x0 x1 hx)) (ab (fun W => bp k W y0 y1 hy)) (ab (fun W => aty W))))
theorem am1 {w e f P Q b x y : Int} (k : Kd w e f P Q b) (W : World) (x0 : 0 ≤ x) (x1 : x < 18446744073709551616) (y0 : 0 ≤ y) (y1 : y < 18446744073709551616) : Calls Tryz.prog 71 #[.int .i64 w,.int .u64 x,.int .u64 y] W fun r W' => r = .returned (.bool (bT P Q x y == 1 || bT P Q x y == 0)) ∧ Below W.heap.size W W':=by
 unfold bT
 by_cases hx : oK P Q x = 3
 ·rw [if_pos (Or.inl hx)]
  by_cases hy : oK P Q y = 3
  ·exact ab1 W (ab (fun W => du W (ab (fun W => bo k W x0 x1 hx)) (ab (fun W => bo k W y0 y1 hy))))
  ·exact ab1 W (ab (fun W => du W (ab (fun W => bo k W x0 x1 hx)) (ab (fun W => bp k W y0 y1 hy))))
 ·by_cases hy : oK P Q y = 3
  ·rw [if_pos (Or.inr hy)]
   exact ab1 W (ab (fun W => l9 W (ab (fun W => bp k W x0 x1 hx)) (ab (fun W => bo k W y0 y1 hy))))
  ·rw [if_neg (by omega),← ah7]
   exact ab1 W (ab (fun W => abw W (ab (fun W => bp k W x0 x1 hx)) (ab (fun W => bp k W y0 y1 hy)) (ab (fun W => atz W))))
theorem am2 {w e f P Q b x y : Int} (k : Kd w e f P Q b) (W : World) (x0 : 0 ≤ x) (x1 : x < 18446744073709551616) (y0 : 0 ≤ y) (y1 : y < 18446744073709551616) : Calls Tryz.prog 67 #[.int .i64 w,.int .u64 x,.int .u64 y] W fun r W' => r = .returned (.bool (bT P Q x y != 0)) ∧ Below W.heap.size W W':=
 aqp W (ab (uC k)) (ab (fun W => nZ k W x0 x1 y0 y1))
theorem mY (a b : Int) : cG b a = -cG a b:=by
 unfold cG
 rcases Int.lt_trichotomy a b with h | h | h
 ·rw [if_pos h,if_neg (by omega),if_neg (by omega)]; rfl
 ·subst h; rw [if_neg (by omega),if_pos rfl]; rfl
 ·rw [if_pos h,if_neg (by omega),if_neg (by omega)]
theorem nY (a b : Int) : cG a b = -1 ∧ a < b ∨ cG a b = 0 ∧ a = b ∨ cG a b = 1 ∧ b < a:=by
 unfold cG
 rcases Int.lt_trichotomy a b with h | h | h
 ·rw [if_pos h]; exact Or.inl ⟨rfl,h⟩
 ·rw [if_neg (by omega),if_pos h]; exact Or.inr (Or.inl ⟨rfl,h⟩)
 ·rw [if_neg (by omega),if_neg (by omega)]; exact Or.inr (Or.inr ⟨rfl,h⟩)
theorem l6 {P Q x y : Int} (hx : oK P Q x ≠ 3) (hy : oK P Q y ≠ 3) : bT P Q x y = cG (sc P Q x) (sc P Q y):=by
 unfold bT
 rw [if_neg (by omega)]
theorem fN {P Q x y : Int} (h : oK P Q x = 3 ∨ oK P Q y = 3) : bT P Q x y = 2:=by
 unfold bT
 rw [if_pos h]
theorem jB (P Q x y : Int) : bT P Q x y = 2 ∧ bT P Q y x = 2 ∧ (oK P Q x = 3 ∨ oK P Q y = 3) ∨ oK P Q x ≠ 3 ∧ oK P Q y ≠ 3 ∧ (bT P Q x y = -1 ∧ bT P Q y x = 1 ∧ sc P Q x < sc P Q y ∨ bT P Q x y = 0 ∧ bT P Q y x = 0 ∧ sc P Q x = sc P Q y ∨ bT P Q x y = 1 ∧ bT P Q y x = -1 ∧ sc P Q y < sc P Q x):=by
 by_cases hx : oK P Q x = 3
 ·exact Or.inl ⟨fN (Or.inl hx),fN (Or.inr hx),Or.inl hx⟩
 ·by_cases hy : oK P Q y = 3
  ·exact Or.inl ⟨fN (Or.inr hy),fN (Or.inl hy),Or.inr hy⟩
  ·refine Or.inr ⟨hx,hy,?_⟩
   rw [l6 hx hy,l6 hy hx]
   have:=mY (sc P Q x) (sc P Q y)
   have:=nY (sc P Q x) (sc P Q y)
   omega
theorem wY {w e f P Q b x y : Int} (k : Kd w e f P Q b) (hx : oK P Q x ≠ 3) (hy : oK P Q y ≠ 3) (h : sc P Q x = sc P Q y) :
 sg P Q x = sg P Q y ∧ aU f P Q x = aU f P Q y ∨ sg P Q x = true ∧ sg P Q y = false ∧ aU f P Q x = P * Q ∧ aU f P Q y = 0 ∨ sg P Q x = false ∧ sg P Q y = true ∧ aU f P Q x = 0 ∧ aU f P Q y = P * Q:=by
 obtain ⟨p1,p2,q1,q2⟩:=k.pos
 have z : ∀ n : Bool,fl f P Q n ((0 : Nat) : Int) = if n then P * Q else 0:=by
  intro n
  unfold fl put
  rw [if_neg k.f0]
  cases n <;> simp
 rw [fW k hx,fW k hy,← abq hx,← abq hy]
 unfold sc at h
 cases hn : oN P Q x <;> cases hm : oN P Q y <;> rw [hn,hm] at h <;> simp at h
 ·left; rw [h]; exact ⟨rfl,rfl⟩
 ·right; right
  have h1 : oc P Q x = 0:=by omega
  have h2 : oc P Q y = 0:=by omega
  rw [h1,h2,z,z]
  exact ⟨rfl,rfl,rfl,rfl⟩
 ·right; left
  have h1 : oc P Q x = 0:=by omega
  have h2 : oc P Q y = 0:=by omega
  rw [h1,h2,z,z]
  exact ⟨rfl,rfl,rfl,rfl⟩
 ·left; rw [h]; exact ⟨rfl,rfl⟩
theorem abo {w e f P Q b : Int} (k : Kd w e f P Q b) : ∃ m : Nat,P * Q = ((2 ^ m : Nat) : Int) ∧ ∀ X : Nat,aU f P Q (X : Int) = ((X % 2 ^ (m + 1) : Nat) : Int):=by
 rcases k with ⟨-,-,rfl,rfl,rfl,-⟩ | ⟨-,-,rfl,rfl,rfl,-⟩
 ·refine ⟨31,by decide,fun X => ?_⟩
  show (if (23 : Int) = 0 then 0 else (X : Int) % 4294967296) = ((X % 4294967296 : Nat) : Int)
  rw [if_neg (by decide)]
  omega
 ·refine ⟨63,by decide,fun X => ?_⟩
  show (if (52 : Int) = 0 then 0 else (X : Int) % 18446744073709551616) = ((X % 18446744073709551616 : Nat) : Int)
  rw [if_neg (by decide)]
  omega
theorem j7 {w e f P Q b x y : Int} (k : Kd w e f P Q b) (x0 : 0 ≤ x) (x1 : x < 18446744073709551616) (y0 : 0 ≤ y) (y1 : y < 18446744073709551616) (hx : oK P Q x ≠ 3) (hy : oK P Q y ≠ 3) (h : sc P Q x = sc P Q y) :
 ∃ u v,bits .or .u64 x y = u ∧ bits .and .u64 x y = v ∧ 0 ≤ u ∧ u < 18446744073709551616 ∧ 0 ≤ v ∧ v < 18446744073709551616 ∧ aU f P Q u = (if sg P Q x = true then aU f P Q x else aU f P Q y) ∧ aU f P Q v = (if sg P Q x = false then aU f P Q x else aU f P Q y):=by
 have hs:=wY k hx hy h
 obtain ⟨m,hm,hc⟩:=abo k
 clear h hx hy
 obtain ⟨X,rfl⟩:=Int.eq_ofNat_of_zero_le x0
 obtain ⟨Y,rfl⟩:=Int.eq_ofNat_of_zero_le y0
 have hX : X < 2 ^ 64:=by omega
 have hY : Y < 2 ^ 64:=by omega
 have ho : X ||| Y < 2 ^ 64:=Nat.or_lt_two_pow hX hY
 have ha : X &&& Y < 2 ^ 64:=Nat.and_lt_two_pow _ hY
 refine ⟨_,_,Go.bits_or_u64_nat X Y (by omega) (by omega),Go.bits_and_u64_nat X Y (by omega) (by omega),by omega,by omega,by omega,by omega,?_,?_⟩
 all_goals
  rw [hc,hc,hc] at *
  first | rw [Nat.or_mod_two_pow] | rw [Nat.and_mod_two_pow]
  generalize X % 2 ^ (m + 1) = A at *
  generalize Y % 2 ^ (m + 1) = B at *
  rw [hm] at hs
  rcases hs with ⟨h1,h2⟩ | ⟨h1,h2,h3,h4⟩ | ⟨h1,h2,h3,h4⟩
  ·have : A = B:=by omega
   subst this
   first | rw [Nat.or_self] | rw [Nat.and_self]
   split <;> rfl
  ·have e1 : A = 2 ^ m:=by omega
   have e2 : B = 0:=by omega
   rw [h1,e1,e2]
   simp
  ·have e1 : A = 0:=by omega
   have e2 : B = 2 ^ m:=by omega
   rw [h1,e1,e2]
   simp
theorem ah1 {w e f P Q b x y : Int} (k : Kd w e f P Q b) (W : World) (x0 : 0 ≤ x) (x1 : x < 18446744073709551616) (y0 : 0 ≤ y) (y1 : y < 18446744073709551616) : Calls Tryz.prog 89 #[.int .i64 w,.int .u64 x,.int .u64 y] W fun r W' => r = .returned (.int .u64 (j8 f P Q (-1) true x y)) ∧ Below W.heap.size W W':=by
 have HL:=fun W => sK k W x0 x1 y0 y1
 have HM:=fun W => sK k W y0 y1 x0 x1
 have HE:=fun W => nZ k W x0 x1 y0 y1
 unfold j8
 rcases jB P Q x y with ⟨e1,e2,-⟩ | ⟨hx,hy,h⟩
 ·rw [e1] at HL HE
  rw [e2] at HM
  rw [if_pos e1]
  exact ql W (ab (fun W => l7 W (ab HL) (ab HM) (ab HE) (ab (fun W => cx k.wd W))))
 ·rcases h with ⟨e1,e2,h⟩ | ⟨e1,e2,h⟩ | ⟨e1,e2,h⟩ <;> rw [e1] at HL HE <;> rw [e2] at HM <;> rw [e1]
  ·rw [if_neg (by omega),if_pos (Or.inl (by omega))]
   exact ql W (ab (fun W => sO W (ab HL) (ab (fun W => cw x k.wd W x0 x1))))
  ·obtain ⟨u,v,hu,hv,u0,u1,v0,v1,cu,cv⟩:=j7 k x0 x1 y0 y1 hx hy h
   have e : (if (0 : Int) = 2 then cM f P Q else if (0 : Int) = (-1) ∨ ((0 : Int) = 0 ∧ sg P Q x = true) then aU f P Q x else aU f P Q y) = aU f P Q u:=by
    rw [cu,if_neg (by omega)]
    cases sg P Q x <;> simp
   rw [e]
   exact ql W (ab (fun W => sQ W (ab HL) (ab HM) (ab HE) (ab (fun W => atu W hu)) (ab (fun W => cw _ k.wd W u0 u1))))
  ·rw [if_neg (by omega),if_neg (by omega)]
   exact ql W (ab (fun W => sP W (ab HL) (ab HM) (ab (fun W => cw y k.wd W y0 y1))))
theorem ah2 {w e f P Q b x y : Int} (k : Kd w e f P Q b) (W : World) (x0 : 0 ≤ x) (x1 : x < 18446744073709551616) (y0 : 0 ≤ y) (y1 : y < 18446744073709551616) : Calls Tryz.prog 90 #[.int .i64 w,.int .u64 x,.int .u64 y] W fun r W' => r = .returned (.int .u64 (j8 f P Q 1 false x y)) ∧ Below W.heap.size W W':=by
 have HL:=fun W => sM k W x0 x1 y0 y1
 have HM:=fun W => sM k W y0 y1 x0 x1
 have HE:=fun W => nZ k W x0 x1 y0 y1
 unfold j8
 rcases jB P Q x y with ⟨e1,e2,-⟩ | ⟨hx,hy,h⟩
 ·rw [e1] at HL HE
  rw [e2] at HM
  rw [if_pos e1]
  exact qm W (ab (fun W => l8 W (ab HL) (ab HM) (ab HE) (ab (fun W => cx k.wd W))))
 ·rcases h with ⟨e1,e2,h⟩ | ⟨e1,e2,h⟩ | ⟨e1,e2,h⟩ <;> rw [e1] at HL HE <;> rw [e2] at HM <;> rw [e1]
  ·rw [if_neg (by omega),if_neg (by omega)]
   exact qm W (ab (fun W => sS W (ab HL) (ab HM) (ab (fun W => cw y k.wd W y0 y1))))
  ·obtain ⟨u,v,hu,hv,u0,u1,v0,v1,cu,cv⟩:=j7 k x0 x1 y0 y1 hx hy h
   have e : (if (0 : Int) = 2 then cM f P Q else if (0 : Int) = 1 ∨ ((0 : Int) = 0 ∧ sg P Q x = false) then aU f P Q x else aU f P Q y) = aU f P Q v:=by
    rw [cv,if_neg (by omega)]
    cases sg P Q x <;> simp
   rw [e]
   exact qm W (ab (fun W => sT W (ab HL) (ab HM) (ab HE) (ab (fun W => aqn W hv)) (ab (fun W => cw _ k.wd W v0 v1))))
  ·rw [if_neg (by omega),if_pos (Or.inl (by omega))]
   exact qm W (ab (fun W => sR W (ab HL) (ab (fun W => cw x k.wd W x0 x1))))
theorem mZ (x y t : Nat) : aK (x * 2 ^ t) (y * 2 ^ t) = aK x y:=by
 have h:=Nat.two_pow_pos t
 unfold aK
 simp only [Nat.mul_lt_mul_right h]
def sgn (n : Bool) (K : Int) : Int:=if K = 0 then 0 else if n then -1 else 1
theorem qn (n : Bool) (K X S : Int) (W : World) : Calls Tryz.prog 200 #[.agg #[.bool n,.int .i64 K,.int .i64 X,.int .u64 S]] W fun r W' => r = .returned (.int .i64 (sgn n K)) ∧ Below W.heap.size W W':=by
 unfold sgn
 by_cases h : K = 0
 ·rw [if_pos h]
  exact am9 W (aH h)
 ·rw [if_neg h]
  cases n
  ·exact anb W (au h)
  ·exact ana W (au h)
theorem xg (f L c d : Nat) : aK (bd f L c) (bd f L d) = cG (c : Int) (d : Int):=by
 have h1:=@eJ f L c d
 have h2:=@eJ f L d c
 unfold aK cG
 rcases Nat.lt_trichotomy c d with h | h | h
 ·rw [if_pos (by omega),if_pos (by omega)]
 ·rw [if_neg (by omega),if_neg (by omega),if_neg (by omega),if_pos (by omega)]
 ·rw [if_neg (by omega),if_pos (by omega),if_neg (by omega),if_neg (by omega)]
theorem ab4 (a b : Int) : cG (-a) (-b) = -cG a b:=by
 rw [← mY]
 unfold cG
 rcases Int.lt_trichotomy a b with h | h | h
 ·rw [if_neg (by omega),if_neg (by omega),if_neg (by omega),if_neg (by omega)]
 ·rw [if_neg (by omega),if_pos (by omega),if_neg (by omega),if_pos (by omega)]
 ·rw [if_pos (by omega),if_pos (by omega)]
theorem aI {w e f P Q b x y : Int} (k : Kd w e f P Q b) (W : World) (x0 : 0 ≤ x) (x1 : x < 18446744073709551616) (y0 : 0 ≤ y) (y1 : y < 18446744073709551616) :
 Calls Tryz.prog 108 #[.int .i64 w,.int .u64 x,.int .u64 y] W fun r W' => r = .returned (.int .i64 (bT P Q x y)) ∧ Below W.heap.size W W':=by
 obtain ⟨X1,S1,o1,t1,m1⟩:=aL k x
 obtain ⟨X2,S2,o2,t2,m2⟩:=aL k y
 have HO1:=ab (fun W => aN x k W x0 x1 o1)
 have HO2:=ab (fun W => aN y k W y0 y1 o2)
 have HS1:=ab (qn (oN P Q x) (oK P Q x) X1 S1)
 have HS2:=ab (qn (oN P Q y) (oK P Q y) X2 S2)
 by_cases a3 : oK P Q x = 3
 ·rw [fN (Or.inl a3)]
  exact mb (L:=0) (r0:=0) (e0:=0) (d1:=0) (d2:=0) W HO1 HO2 HS1 HS2 (Or.inl ⟨aH a3,rfl⟩)
 by_cases b3 : oK P Q y = 3
 ·rw [fN (Or.inr b3)]
  exact mb (L:=0) (r0:=0) (e0:=0) (d1:=0) (d2:=0) W HO1 HO2 HS1 HS2 (Or.inr ⟨au a3,Or.inl ⟨aH b3,rfl⟩⟩)
 rw [l6 a3 b3]
 have ka:=b9 k x
 have kb:=b9 k y
 have tp:=dP k
 by_cases h1 : sgn (oN P Q x) (oK P Q x) < sgn (oN P Q y) (oK P Q y)
 ·have hc : sc P Q x < sc P Q y:=by
   unfold sc
   unfold sgn at h1
   cases hn : oN P Q x <;> cases hm : oN P Q y <;> rw [hn,hm] at h1 <;> simp at h1 ⊢ <;> (try split at h1) <;> (try split at h1) <;> omega
  rw [show cG (sc P Q x) (sc P Q y) = -1 by unfold cG; rw [if_pos hc]]
  exact mb (L:=0) (r0:=0) (e0:=0) (d1:=0) (d2:=0) W HO1 HO2 HS1 HS2 (Or.inr ⟨au a3,Or.inr ⟨au b3,Or.inl ⟨h1,rfl⟩⟩⟩)
 by_cases h2 : sgn (oN P Q y) (oK P Q y) < sgn (oN P Q x) (oK P Q x)
 ·have hc : sc P Q y < sc P Q x:=by
   unfold sc
   unfold sgn at h2
   cases hn : oN P Q x <;> cases hm : oN P Q y <;> rw [hn,hm] at h2 <;> simp at h2 ⊢ <;> (try split at h2) <;> (try split at h2) <;> omega
  rw [show cG (sc P Q x) (sc P Q y) = 1 by unfold cG; rw [if_neg (by omega),if_neg (by omega)]]
  exact mb (L:=0) (r0:=0) (e0:=0) (d1:=0) (d2:=0) W HO1 HO2 HS1 HS2 (Or.inr ⟨au a3,Or.inr ⟨au b3,Or.inr ⟨h1,Or.inl ⟨h2,rfl⟩⟩⟩⟩)
 by_cases h3 : sgn (oN P Q x) (oK P Q x) = 0
 ·have h4 : sgn (oN P Q y) (oK P Q y) = 0:=by omega
  have kz : ∀ (n : Bool) (K : Int),sgn n K = 0 → K = 0:=by
   intro n K h
   unfold sgn at h
   by_cases hk : K = 0
   ·exact hk
   ·rw [if_neg hk] at h
    cases n <;> simp at h
  have q1:=kz _ _ h3
  have q2:=kz _ _ h4
  have c1 : oc P Q x = 0:=by omega
  have c2 : oc P Q y = 0:=by omega
  have hc : sc P Q x = sc P Q y:=by
   unfold sc
   rw [c1,c2]
   simp
  rw [show cG (sc P Q x) (sc P Q y) = 0 by unfold cG; rw [if_neg (by omega),if_pos hc]]
  exact mb (L:=0) (r0:=0) (e0:=0) (d1:=0) (d2:=0) W HO1 HO2 HS1 HS2 (Or.inr ⟨au a3,Or.inr ⟨au b3,Or.inr ⟨h1,Or.inr ⟨h2,Or.inl ⟨aH h3,rfl⟩⟩⟩⟩⟩)
 obtain ⟨q1,q2,hn⟩ : oK P Q x ≠ 0 ∧ oK P Q y ≠ 0 ∧ oN P Q x = oN P Q y:=by
  unfold sgn at h1 h2 h3
  by_cases q1 : oK P Q x = 0
  ·rw [if_pos q1] at h3; exact absurd rfl h3
  ·rw [if_neg q1] at h1 h2 h3
   by_cases q2 : oK P Q y = 0
   ·rw [if_pos q2] at h1 h2
    cases hh : oN P Q x <;> rw [hh] at h1 h2 <;> simp at h1 h2
   ·rw [if_neg q2] at h1 h2
    refine ⟨q1,q2,?_⟩
    revert h1 h2
    cases oN P Q x <;> cases oN P Q y <;> simp
 have E3:=au h3
 have fin : ∀ d,cG (oc P Q x : Int) (oc P Q y : Int) = d → cG (sc P Q x) (sc P Q y) = (if oN P Q x then -d else d):=by
  intro d hd
  unfold sc
  rw [← hn]
  cases oN P Q x <;> simp
  ·exact hd
  ·rw [ab4,hd]
 have neg1 : ∀ d : Int,-1 ≤ d → d ≤ 1 → IntKind.i64.wrap (-d) = -d:=fun d _ _ => aj (by omega) (by omega)
 have inf : ((oK P Q x == 2) = true ∨ (oK P Q x == 2) = false ∧ (oK P Q y == 2) = true) → Calls Tryz.prog 108 #[.int .i64 w,.int .u64 x,.int .u64 y] W fun r W' => r = .returned (.int .i64 (cG (sc P Q x) (sc P Q y))) ∧ Below W.heap.size W W':=fun hi => by
  obtain ⟨d,hd,hs,l1,l2⟩ : ∃ d,IntKind.i64.wrap (oK P Q x - oK P Q y) = d ∧ cG (oc P Q x : Int) (oc P Q y : Int) = d ∧ -1 ≤ d ∧ d ≤ 1:=by
   refine ⟨_,rfl,?_⟩
   rw [aj (by omega) (by omega)]
   have:=nY (oc P Q x : Int) (oc P Q y : Int)
   simp only [beq_iff_eq,beq_eq_false_iff_ne] at hi
   omega
  rw [fin d hs]
  exact mb (L:=0) (d1:=0) (d2:=0) W HO1 HO2 HS1 HS2 (Or.inr ⟨au a3,Or.inr ⟨au b3,Or.inr ⟨h1,Or.inr ⟨h2,Or.inr ⟨E3,Or.inl ⟨hi,hd,neg1 d l1 l2,rfl⟩⟩⟩⟩⟩⟩)
 by_cases i1 : oK P Q x = 2
 ·exact inf (Or.inl (aH i1))
 by_cases i2 : oK P Q y = 2
 ·exact inf (Or.inr ⟨au i1,aH i2⟩)
 obtain ⟨p1,p2,p3,p4⟩:=k.pos
 have hb : 0 ≤ b ∧ b ≤ 1023 ∧ 0 ≤ f ∧ f ≤ 52:=by rcases k with h | h <;> omega
 have f1 : -5000 ≤ X1 ∧ X1 ≤ 4000 ∧ 0 ≤ S1 ∧ S1 < 18446744073709551616:=by unfold Prt at t1; omega
 have f2 : -5000 ≤ X2 ∧ X2 ≤ 4000 ∧ 0 ≤ S2 ∧ S2 < 18446744073709551616:=by unfold Prt at t2; omega
 have L1 : Hid (0 ≤ S1 ∧ S1 < 18446744073709551616 ∧ S1.toNat < pw 2):=by rw [lu]; exact ⟨f1.2.2.1,f1.2.2.2,by omega⟩
 have L2 : Hid (0 ≤ S2 ∧ S2 < 18446744073709551616 ∧ S2.toNat < pw 2):=by rw [lu]; exact ⟨f2.2.2.1,f2.2.2.2,by omega⟩
 rw [(fV k ⟨a3,i1⟩).1] at m1
 rw [(fV k ⟨b3,i2⟩).1] at m2
 have hcm:=xg f.toNat (av f b) (oc P Q x) (oc P Q y)
 rw [← m1,← m2] at hcm
 have hin:=nY (oc P Q x : Int) (oc P Q y : Int)
 have hl1 : -1 ≤ cG (oc P Q x : Int) (oc P Q y : Int):=by omega
 have hl2 : cG (oc P Q x : Int) (oc P Q y : Int) ≤ 1:=by omega
 rw [fin _ rfl]
 obtain ⟨L,hL⟩ : ∃ L,X1 ≤ X2 ∧ X1 = L ∨ ¬ X1 ≤ X2 ∧ X2 = L:=by
  by_cases hm : X1 ≤ X2
  ·exact ⟨X1,Or.inl ⟨hm,rfl⟩⟩
  ·exact ⟨X2,Or.inr ⟨hm,rfl⟩⟩
 obtain ⟨d1,hd1⟩ : ∃ d : Nat,X1 - L = (d : Int):=⟨(X1 - L).toNat,by omega⟩
 obtain ⟨d2,hd2⟩ : ∃ d : Nat,X2 - L = (d : Int):=⟨(X2 - L).toNat,by omega⟩
 have q1 : S1.toNat * 2 ^ d1 * 2 ^ (L + 5000).toNat = mag X1 S1:=by
  unfold mag
  rw [Nat.mul_assoc,← Nat.pow_add,show d1 + (L + 5000).toNat = (X1 + 5000).toNat by omega]
 have q2 : S2.toNat * 2 ^ d2 * 2 ^ (L + 5000).toNat = mag X2 S2:=by
  unfold mag
  rw [Nat.mul_assoc,← Nat.pow_add,show d2 + (L + 5000).toNat = (X2 + 5000).toNat by omega]
 have e1 : aK (S1.toNat * 2 ^ d1) (S2.toNat * 2 ^ d2) = cG (oc P Q x : Int) (oc P Q y : Int):=by rw [← hcm,← q1,← q2,mZ]
 rw [← e1] at hl1 hl2 ⊢
 exact mb (e0:=0) W HO1 HO2 HS1 HS2 (Or.inr ⟨au a3,Or.inr ⟨au b3,Or.inr ⟨h1,Or.inr ⟨h2,Or.inr ⟨E3,Or.inr ⟨au i1,au i2,hL,L1,L2,ab ⟨fun z hz => by rw [hz,hd1]; exact aj (by omega) (by omega),by omega⟩,ab ⟨fun z hz => by rw [hz,hd2]; exact aj (by omega) (by omega),by omega⟩,neg1 _ hl1 hl2,rfl⟩⟩⟩⟩⟩⟩)
theorem jk {w e f P Q b : Int} (k : Kd w e f P Q b) (x : Int) : 0 ≤ aU f P Q x ∧ aU f P Q x < 18446744073709551616 ∧ oK P Q (aU f P Q x) = oK P Q x ∧ sg P Q (aU f P Q x) = sg P Q x ∧ sc P Q (aU f P Q x) = sc P Q x ∧ aU f P Q (aU f P Q x) = aU f P Q x:=by
 obtain ⟨p1,p2,q1,q2⟩:=k.pos
 obtain ⟨u,v⟩:=cJ (x / P) (show 1 ≤ Q by omega)
 obtain ⟨u',v'⟩:=cJ x (show 1 ≤ P by omega)
 obtain ⟨r0,r1,r2,r3,r4⟩:=iA (n:=sg P Q x) k u v u' v'
 rw [eD k.wd.sz] at r0 r1 r2 r3 r4
 refine ⟨r0,r1,?_,r2,?_,?_⟩
 ·unfold oK; rw [r3,r4]
 ·unfold sc oN oc; rw [r2,r3,r4]
 ·rw [← eD k.wd.sz (aU f P Q x),r2,r3,r4,eD k.wd.sz]
theorem aia {w e f P Q b : Int} (k : Kd w e f P Q b) (x y : Int) : bT P Q (aU f P Q x) (aU f P Q y) = bT P Q x y:=by
 obtain ⟨-,-,a1,-,a2,-⟩:=jk k x
 obtain ⟨-,-,b1,-,b2,-⟩:=jk k y
 unfold bT
 rw [a1,a2,b1,b2]
theorem j9 {w e f P Q b x y : Int} (k : Kd w e f P Q b) (t : Int) (n : Bool) (W : World) (x0 : 0 ≤ x) (x1 : x < 18446744073709551616) (y0 : 0 ≤ y) (y1 : y < 18446744073709551616) :
 Calls Tryz.prog 114 #[.int .i64 w,.int .u64 x,.int .u64 y,.int .i64 t,.bool n] W fun r W' => r = .returned (.int .u64 (j8 f P Q t n x y)) ∧ Below W.heap.size W W':=by
 obtain ⟨c0,c1,-,hs,-,-⟩:=jk k x
 obtain ⟨d0,d1,-,-,-,-⟩:=jk k y
 have H1:=ab (fun W => bw x k W x0 x1)
 have H2:=ab (fun W => bw y k W y0 y1)
 have H3:=fun W => aI k W c0 c1 d0 d1
 rw [aia k] at H3
 have H4:=fun W => dq (aU f P Q x) k W c0 c1
 rw [hs] at H4
 unfold j8
 generalize bT P Q x y = c at *
 by_cases e2 : c = 2
 ·rw [if_pos e2]
  exact aib W H1 H2 (ab H3) (aH e2) (ab (fun W => bN k W))
 rw [if_neg e2]
 by_cases e3 : c = t
 ·rw [if_pos (Or.inl e3)]
  exact aic W H1 H2 (ab H3) (au e2) (aH e3)
 by_cases e0 : c = 0
 ·by_cases hg : sg P Q x = n
  ·rw [if_pos (Or.inr ⟨e0,hg⟩)]
   exact aie W H1 H2 (ab H3) (ab H4) (au e2) (au e3) (aH e0) (by rw [hg]; cases n <;> rfl)
  ·rw [if_neg (fun h => h.elim e3 (fun h => hg h.2))]
   exact aif W H1 H2 (ab H3) (ab H4) (au e2) (au e3) (aH e0) (by revert hg; cases sg P Q x <;> cases n <;> simp)
 ·rw [if_neg (fun h => h.elim e3 (fun h => e0 h.1))]
  exact aid W H1 H2 (ab H3) (au e2) (au e3) (au e0)
def wq (M : Nat) : Nat:=M / 2 ^ Z5
def wr (M : Nat) : Nat:=M % 2 ^ Z5
def wh (M : Nat) : Int:=aK (wr M * 2 ^ 1) (2 ^ Z5)
def upN (way : Int) (n : Bool) (M : Nat) : Bool:=
 if way = 1 then decide (wr M ≠ 0) && !n else if way = 2 then decide (wr M ≠ 0) && n else if way = 4 then (decide (wh M = 1) || (decide (wh M = 0) && decide (wq M % 2 = 1))) else false
def bA (way : Int) (n : Bool) (M : Nat) : Nat:=wq M + (upN way n M).toNat
def bC (f P Q b way x : Int) : Int:=
 if oK P Q x = 3 then cM f P Q else if oK P Q x ≠ 1 then aU f P Q x else rd f P Q b (oN P Q x) (bA way (oN P Q x) (oM f P Q b x) * 2 ^ Z5)
theorem ah8 (M : Nat) : wq M * 2 ^ Z5 + wr M = M:=by
 unfold wq wr
 rw [Nat.mul_comm]
 exact Nat.div_add_mod M (2 ^ Z5)
theorem od (v u : Nat) : aK v u = -1 ∧ v < u ∨ aK v u = 0 ∧ v = u ∨ aK v u = 1 ∧ u < v:=by
 unfold aK
 by_cases h : v < u
 ·rw [if_pos h]; exact Or.inl ⟨rfl,h⟩
 ·rw [if_neg h]
  by_cases g : u < v
  ·rw [if_pos g]; exact Or.inr (Or.inr ⟨rfl,g⟩)
  ·rw [if_neg g]; exact Or.inr (Or.inl ⟨rfl,by omega⟩)
theorem am8 (k : Nat) (hk : k ≤ 5000) {X S : Int} (hX : X = -(k : Int)) : mag X S = S.toNat * 2 ^ (Z5 - k) ∧ 2 ^ Z5 = 2 ^ k * 2 ^ (Z5 - k):=by
 constructor
 ·unfold mag
  rw [show (X + 5000).toNat = Z5 - k by unfold Z5; omega]
 ·rw [← Nat.pow_add,show k + (Z5 - k) = Z5 by unfold Z5; omega]
theorem ma (k : Nat) (hk : k ≤ 5000) {X S : Int} (hX : X = -(k : Int)) : wq (mag X S) = S.toNat / 2 ^ k ∧ wr (mag X S) = S.toNat % 2 ^ k * 2 ^ (Z5 - k) ∧ wh (mag X S) = aK (S.toNat % 2 ^ k * 2 ^ 1) (2 ^ k):=by
 obtain ⟨h1,h2⟩:=am8 k hk (S:=S) hX
 have hp:=Nat.two_pow_pos (Z5 - k)
 have hr : wr (mag X S) = S.toNat % 2 ^ k * 2 ^ (Z5 - k):=by
  unfold wr
  rw [h1,h2,Nat.mul_mod_mul_right]
 refine ⟨?_,hr,?_⟩
 ·unfold wq
  rw [h1,h2,Nat.mul_div_mul_right _ _ hp]
 ·unfold wh
  rw [hr,h2,Nat.mul_right_comm]
  exact mZ _ _ _
theorem uD (k : Nat) (hk : k ≤ 5000) {X S : Int} (hX : X = -(k : Int)) : (wr (mag X S) ≠ 0) = (S.toNat % 2 ^ k ≠ 0):=by
 obtain ⟨-,h,-⟩:=ma k hk (S:=S) hX
 have hp:=Nat.two_pow_pos (Z5 - k)
 rw [h]
 refine propext ⟨fun a e => a (by rw [e,Nat.zero_mul]),fun a e => ?_⟩
 rcases Nat.mul_eq_zero.mp e with h | h
 ·exact a h
 ·omega
theorem jC {X S : Int} (hX : 0 ≤ X) : wq (mag X S) = S.toNat * 2 ^ X.toNat ∧ wr (mag X S) = 0 ∧ wh (mag X S) = -1:=by
 have hm : mag X S = S.toNat * 2 ^ X.toNat * 2 ^ Z5:=by
  unfold mag
  rw [show (X + 5000).toNat = X.toNat + Z5 by unfold Z5; omega,Nat.pow_add,Nat.mul_assoc]
 have hp:=Nat.two_pow_pos Z5
 have hr : wr (mag X S) = 0:=by unfold wr; rw [hm,Nat.mul_mod_left]
 refine ⟨by unfold wq; rw [hm,Nat.mul_div_cancel _ hp],hr,?_⟩
 unfold wh aK
 rw [hr,Nat.zero_mul,if_pos hp]
theorem ah9 {M : Nat} (h : wr M = 0) : wh M = -1:=by
 unfold wh aK
 rw [h,Nat.zero_mul,if_pos (Nat.two_pow_pos Z5)]
theorem oe {M : Nat} (way : Int) (n : Bool) (h : wr M = 0) : upN way n M = false:=by
 unfold upN
 rw [ah9 h,h]
 simp
theorem sU {M : Nat} (way : Int) (n : Bool) (h : wr M = 0) : bA way n M * 2 ^ Z5 = M:=by
 have h1:=ah8 M
 rw [h,Nat.add_zero] at h1
 unfold bA
 rw [oe way n h,show false.toNat = 0 from rfl,Nat.add_zero]
 exact h1
theorem xf (S k : Nat) : (decide (S / 2 ^ k % 2 = 1) && (decide (S % 2 ^ k ≠ 0) || decide (S / 2 ^ (k + 1) % 2 = 1))) = (decide (aK (S % 2 ^ (k + 1) * 2 ^ 1) (2 ^ (k + 1)) = 1) || (decide (aK (S % 2 ^ (k + 1) * 2 ^ 1) (2 ^ (k + 1)) = 0) && decide (S / 2 ^ (k + 1) % 2 = 1))):=by
 have hp:=Nat.two_pow_pos k
 have e1 : S / 2 ^ k / 2 = S / 2 ^ (k + 1):=by rw [Nat.div_div_eq_div_mul,Nat.pow_succ]
 have e2 : S % 2 ^ (k + 1) = S / 2 ^ k % 2 * 2 ^ k + S % 2 ^ k:=by
  have:=Nat.mod_pow_succ (x:=S) (b:=2) (k:=k)
  rw [this,Nat.mul_comm]; omega
 have hl:=Nat.mod_lt S hp
 rw [e2,Nat.pow_succ 2 k]
 generalize S / (2 ^ k * 2) % 2 = o
 generalize S % 2 ^ k = r at *
 generalize hb : S / 2 ^ k % 2 = a
 generalize 2 ^ k = p at *
 have ha : a = 0 ∨ a = 1:=by omega
 rcases ha with rfl | rfl
 ·rcases od ((0 * p + r) * 2 ^ 1) (p * 2) with ⟨e,h⟩ | ⟨e,h⟩ | ⟨e,h⟩ <;> rw [e]
  ·simp
  ·exfalso; omega
  ·exfalso; omega
 ·rcases od ((1 * p + r) * 2 ^ 1) (p * 2) with ⟨e,h⟩ | ⟨e,h⟩ | ⟨e,h⟩ <;> rw [e]
  ·exfalso; omega
  ·have : r = 0:=by omega
   subst this
   simp
  ·have : r ≠ 0:=by omega
   simp [this]
end Go.Proofs.YtpbgpdmffejdgaaGreatDoor
