/- MInX, MWhG, MRpA. -/
import Derived.Test.YtpbgpdmffejdgaaGreatDoorG23
import Derived.Test.YtpbgpdmffejdgaaGreatDoorG24
import Derived.Test.YtpbgpdmffejdgaaGreatDoorG30
import Derived.Test.YtpbgpdmffejdgaaGreatDoorG39
import Derived.Test.YtpbgpdmffejdgaaGreatDoorG40
import Derived.Test.YtpbgpdmffejdgaaGreatDoorG42
import Derived.Test.YtpbgpdmffejdgaaGreatDoorG43
namespace Go.Proofs.YtpbgpdmffejdgaaGreatDoor
open Go.RowKit
theorem kH {f : Int} {m : Nat} (p : Pc f m) : Ct 171 #[.int .i64 f] (.bool true) ∧ f = (m : Int) ∧ 8 ≤ m ∧ m ≤ 64:=by
 rcases p with ⟨rfl,rfl⟩ | ⟨rfl,rfl⟩ | ⟨rfl,rfl⟩ | ⟨rfl,rfl⟩
 ·exact ⟨afz,by omega,by omega,by omega⟩
 ·exact ⟨zh,by omega,by omega,by omega⟩
 ·exact ⟨zi,by omega,by omega,by omega⟩
 ·exact ⟨zj,by omega,by omega,by omega⟩
theorem o5 {b m n i : Nat} (m0 : 1 ≤ m) (m1 : m ≤ n) (n1 : n ≤ 64) (hi : i < n) : (ld (ik b 64 (64 - m)) 64 (64 - m)).testBit i = fJ b m true i ∧ (lc (ik b 64 (64 - m)) (64 - m)).testBit i = fJ b m false i:=by
 unfold fJ
 rw [tL (iu _ _ _) (by omega) (by omega),iI,kB,kB]
 by_cases h : i < m
 ·rw [if_pos (by omega),if_pos h,if_pos h,decide_eq_true (show i + (64 - m) < 64 by omega),decide_eq_true (show 64 - m ≤ i + (64 - m) by omega),Nat.add_sub_cancel]
  simp
 ·rw [if_neg (by omega),if_neg h,if_neg h,decide_eq_true (show 64 - 1 < 64 by omega),decide_eq_true (show 64 - m ≤ 64 - 1 by omega),decide_eq_false (show ¬ i + (64 - m) < 64 by omega),show 64 - 1 - (64 - m) = m - 1 by omega]
  simp
theorem tV {n x : Nat} {g : Nat → Bool} (h : ∀ i,i < n → x.testBit i = g i) : x % 2 ^ n = bX g n:=by
 refine (fA (Nat.mod_lt _ (Nat.two_pow_pos n)) (fun i hi => ?_)).symm
 rw [Nat.testBit_mod_two_pow,decide_eq_true hi,Bool.true_and]
 exact h i hi
theorem tW {f : Int} {m b : Nat} (p : Pc f m) (hb : b < 18446744073709551616) : ∃ d u : Int,IntKind.i64.wrap (64 - f) = d ∧ IntKind.u64.wrap d = u ∧ Ct 138 #[.int .i64 64,.int .u64 (b : Int),.int .u64 u] (.int .u64 ((ik b 64 (64 - m) : Nat) : Int)) ∧
 Ct 139 #[.int .i64 64,.int .u64 ((ik b 64 (64 - m) : Nat) : Int),.int .u64 u] (.int .u64 ((ld (ik b 64 (64 - m)) 64 (64 - m) : Nat) : Int)) ∧ Ct 140 #[.int .i64 64,.int .u64 ((ik b 64 (64 - m) : Nat) : Int),.int .u64 u] (.int .u64 ((lc (ik b 64 (64 - m)) (64 - m) : Nat) : Int)):=by
 obtain ⟨-,hf,h8,h64⟩:=kH p
 have k:=(show Wm 64 64 9223372036854775808 18446744073709551616 from Or.inr ⟨rfl,rfl,rfl,rfl⟩)
 have hu : (((64 - m : Nat) : Int)) % 64 = ((64 - m : Nat) : Int):=by omega
 have hur : Rg ((64 - m : Nat) : Int):=by unfold Rg; omega
 have hs:=iu b 64 (64 - m)
 have e : ((ik b 64 (64 - m) : Nat) : Int) % 18446744073709551616 = ((ik b 64 (64 - m) : Nat) : Int):=by omega
 refine ⟨((64 - m : Nat) : Int),((64 - m : Nat) : Int),by rw [IntKind.wrap_i64]; omega,by rw [IntKind.wrap_u64]; omega,nl k (show (b : Int) % 18446744073709551616 = (b : Int) by omega) hu hur,tJ k e hu hur,nm k e hu hur (ak1 k hs)⟩
theorem apz {w H M : Int} {n : Nat} (k : Wm w n H M) {f : Int} {m b : Nat} (p : Pc f m) (hb : b < 18446744073709551616) (g : m ≤ n) (sg : Bool) : Ct 97 #[.int .i64 w,.int .i64 f,.int .u64 (b : Int),.bool sg] (.int .u64 ((bX (fJ b m sg) n : Nat) : Int)):=by
 obtain ⟨HP,hf,h8,h64⟩:=kH p
 obtain ⟨d,u,hd,hu,HL,HS,HU⟩:=tW p hb
 obtain ⟨-,k2,k3,-,k5,-⟩:=k.two
 have hs:=iu b 64 (64 - m)
 cases sg
 ·have hl:=jt (64 - m) hs
  refine ee (ajm HP (by omega) hd hu HL HU (bG k (by unfold Rg; omega))) ?_
  rw [k2,← Int.natCast_emod,tV (fun i hi => (o5 (by omega) g k5 hi).2)]
 ·have hl:=q5 hs (show 64 - m < 64 by omega)
  refine ee (ajl HP (by omega) hd hu HL HS (bG k (by unfold Rg; omega))) ?_
  rw [k2,← Int.natCast_emod,tV (fun i hi => (o5 (by omega) g k5 hi).1)]
theorem bn {x c : Int} (h : ¬ x = c) : (x != c) = true:=by simpa using h
theorem fb {w H M : Int} {n : Nat} (k : Wm w n H M) {a : Int} {A : Nat} (hr : Rg a) (ha : a % M = (A : Int)) : Hid (∀ W,Calls Tryz.prog 172 #[.int .i64 (n : Int),.int .u64 a] W fun e w' => ∃ s,e = .returned s ∧ db w' s A.testBit n ∧ Below W.heap.size W w'):=by
 obtain ⟨-,k2,k3,k4,k5,-,k7⟩:=k.two
 have HC:=bR k hr
 have hA : A < 18446744073709551616:=by have:=(k.cut a).2; omega
 rw [ha,k3] at HC
 exact zp k5 (by omega) hA HC
theorem alv {w H M : Int} {n : Nat} (k : Wm w n H M) {f : Int} {m b : Nat} (p : Pc f m) (hb : b < 18446744073709551616) (g : m ≤ n) (sg : Bool) : Ct 99 #[.int .i64 w,.int .i64 f,.int .u64 (b : Int),.bool sg] (.int .u64 ((bX (fJ b m sg) n : Nat) : Int)):=by
 obtain ⟨-,k2,k3,-,k5,-⟩:=k.two
 have HL:=fb (show Wm 64 64 9223372036854775808 18446744073709551616 from Or.inr ⟨rfl,rfl,rfl,rfl⟩) (a:=(b : Int)) (A:=b) (by unfold Rg; omega) (by omega)
 rw [k3]
 exact aly p k5 g HL (zq k5)
theorem alw {n A : Nat} (hA : A < 2 ^ n) : (∀ i,i < n - Go.bitLen A → A.testBit (if true then n - 1 - i else i) = false) ∧ (n - Go.bitLen A < n → A.testBit (if true then n - 1 - (n - Go.bitLen A) else n - Go.bitLen A) = true):=by
 obtain ⟨l1,l2⟩:=Go.bitLen_spec A
 have hL:=zg hA
 refine ⟨fun i hi => ?_,fun h => ?_⟩
 ·rw [if_pos rfl]
  exact gQ l1 (by omega)
 ·have h0 : A ≠ 0:=fun h0 => by subst h0; simp [Go.bitLen] at h
  rw [if_pos rfl,show n - 1 - (n - Go.bitLen A) = Go.bitLen A - 1 by omega,nv l1 (by omega)]
  exact decide_eq_true (l2 h0)
theorem alx {n b A : Nat} (hn : n ≤ 64) (hb : b < 18446744073709551616) (hA : b % 2 ^ n = A) : min n (Lib.ctz 64 b) ≤ n ∧ (∀ i,i < min n (Lib.ctz 64 b) → A.testBit (if false then n - 1 - i else i) = false) ∧ (min n (Lib.ctz 64 b) < n → A.testBit (if false then n - 1 - min n (Lib.ctz 64 b) else min n (Lib.ctz 64 b)) = true):=by
 refine ⟨Nat.min_le_left _ _,?_⟩
 rcases afy hn hb hA with ⟨rfl,hd⟩ | ⟨t,ht,htn,hodd,hz⟩
 ·rw [hd]
  refine ⟨fun i _ => ?_,fun h => by omega⟩
  rw [if_neg (by decide),Nat.zero_testBit]
 ·rw [ht]
  refine ⟨fun i hi => ?_,fun _ => ?_⟩
  ·rw [if_neg (by decide)]
   have:=Nat.testBit_mod_two_pow A t i
   rw [hz,Nat.zero_testBit,decide_eq_true hi,Bool.true_and] at this
   exact this.symm
  ·rw [if_neg (by decide),lb]
   exact decide_eq_true hodd
set_option maxRecDepth 100000
set_option maxHeartbeats 2000000
open Go.Proofs.YtpbgpdmffejdgaaGreatDoor.W
theorem acd {w x K1 X1 S1 V h : Int} (W : World) (HO : Ct 101 #[.int .i64 w,.int .u64 x] (.agg #[.bool false,.int .i64 K1,.int .i64 X1,.int .u64 S1])) (z : Nat) (k3 : (K1 == 3) = false) (k1 : (K1 != 1) = false) (HD : Hid (∀ W,Calls Tryz.prog 186 #[.agg #[.bool false,.int .i64 K1,.int .i64 X1,.int .u64 S1]] W fun e w' => ∃ s,e = .returned (.tuple #[.agg #[s],.int .i64 h,.bool true]) ∧ ai w' s z ∧ Below W.heap.size W w')) (hz : Hid (z < pw 100))  (HE : Hid (∀ (a : Option Addr) (m c : Nat) (W : World),ai W (.slice a m c) (z + 1) → Calls Tryz.prog 185 #[.int .i64 w,.bool false,.agg #[.slice a m c],.int .i64 0] W fun r W' => r = .returned (.int .u64 V) ∧ Below W.heap.size W W')) :
 Calls Tryz.prog 203 #[.int .i64 w,.int .u64 x,.int .i64 1] W fun r W' => r = .returned (.int .u64 V) ∧ Below W.heap.size W W':=by
 go_enter Tryz.func203,Tryz.ntmps203
 go_wp2_with fail
 refine cg1 HO fun w1 hb => ?_
 have HB:=ab (ad hb (.cells #[.bool false,.int .i64 K1,.int .i64 X1,.int .u64 S1] 105))
 have HA:=ab (ak w1 (.bool false) (.int .i64 K1) (.int .i64 X1) (.int .u64 S1) 105)
 have HZ0:=ab hb.size
 clear hb
 obtain ⟨c0,c1,c2,c3⟩:=aa HA
 go_wp2_with fail
 clear c0 c1 c2 c3
 refine (aa HD _).mono ?_
 rintro _ w2 ⟨s2,rfl,hN,hb⟩
 obtain ⟨a2,m2,c2,rfl⟩:=hN.slice
 have HB:=ab (ad (ac (aa HB) hb) (.cells #[.slice a2 m2 c2] 41))
 have HA:=ab (((aa HA).below hb).below (ae _ (.cells #[.slice a2 m2 c2] 41)))
 have HN:=ab (hN.below (ae _ (.cells #[.slice a2 m2 c2] 41)))
 have HM : Hid ((w2.alloc (.cells #[.slice a2 m2 c2] 41)).cell? ⟨w2.heap.size,0,none⟩ = some (.slice a2 m2 c2) ∧ (w2.alloc (.cells #[.slice a2 m2 c2] 41)).frozen? ⟨w2.heap.size,0,none⟩ = false):=⟨by simp [go_sem],by simp [go_sem]⟩
 have HZ : Hid (W.heap.size ≤ w2.heap.size ∧ w1.heap.size < w2.heap.size):=⟨by have:=aa HZ0; have:=hb.size; simp at this; omega,by have:=hb.size; simp at this; omega⟩
 clear hb hN
 obtain ⟨c0,c1,c2',c3⟩:=aa HA
 obtain ⟨cn,fn⟩:=aa HM
 go_wp2_with fail
 clear c0 c1 c2' c3 cn fn
 generalize w2.alloc (.cells #[.slice a2 m2 c2] 41) = w2' at *
 generalize w2' = wq at *
 have HB:=ab (aa HB).drew
 have HA:=ab ((aa HA).below ((Below.refl _ _).drew))
 have HN:=ab ((aa HN).below ((Below.refl _ _).drew))
 have HM:=ab ((aA _ _) _ _ (aa HM) ((Below.refl _ _).drew))
 have cn0:=(aa HM).1
 go_region_with (first
  | (go_at_call 21; refine (dN _).mono ?_; rintro e w8 ⟨s8,rfl,hN8,hbl⟩; obtain ⟨a8,m8,c8,rfl⟩:=hN8.slice; have H8:=ab hN8; have HN8:=ab ((aa HN).below hbl); have HM8:=ab ((aA _ _) _ _ (aa HM) hbl); have HA8:=ab ((aa HA).below hbl); have HB8:=bt HB hbl; clear hbl hN8; have cn8:=(aa HM8).1)
  | (go_at_call 118; refine (bO _ _ _ _ _ _ _ _ _ (aa HN8) (aa H8) (Nat.le_trans ((aa HN8).short (aa hz)) (by omega)) (jn (aa H8))).mono ?_; rintro e w9 ⟨s9,rfl,hN9,hbl⟩; obtain ⟨a9,m9,c9,rfl⟩:=hN9.slice; have H9:=ab hN9; have HM9:=ab ((aA _ _) _ _ (aa HM8) hbl); have HA9:=ab ((aa HA8).below hbl); have HB9:=ab (ac (aa HB8) hbl); clear hbl hN9 cn8; have cn9:=(aa HM9).1; have fn9:=(aa HM9).2))
 all_goals
  have H9:=ab ((aa H9).store cn9 (.slice a9 m9 c9))
  have HB:=ab (aZ (aa HB9) w2.heap.size (aa HZ).1 0 (.slice a9 m9 c9))
  have HA:=ab (At4.set (aa HA9) (Nat.ne_of_lt (aa HZ).2) 0 (.slice a9 m9 c9))
  have cn : (w9.setCell ⟨w2.heap.size,0,none⟩ (.slice a9 m9 c9)).cell? ⟨w2.heap.size,0,none⟩ = some (.slice a9 m9 c9):=World.cell?_setCell_same _ _ _ cn9
  clear cn9 fn9 cn0 HM HM8 HM9 HB8 HB9 HA8 HA9
  generalize w9.setCell ⟨w2.heap.size,0,none⟩ (.slice a9 m9 c9) = wx at *
  obtain ⟨c0,c1,c2',c3⟩:=aa HA
  go_wp2_with fail
  refine (aa HE _ _ _ _ (aa H9)).mono ?_
  rintro _ wz ⟨rfl,hbl⟩
  have HB:=bt HB hbl
  go_wp2_with fail
  go_ret
  exact ⟨rfl,aa HB⟩
theorem ace {w x K1 X1 S1 V h : Int} (W : World) (HO : Ct 101 #[.int .i64 w,.int .u64 x] (.agg #[.bool true,.int .i64 K1,.int .i64 X1,.int .u64 S1])) (z : Nat) (k3 : (K1 == 3) = false) (k1 : (K1 != 1) = false) (HD : Hid (∀ W,Calls Tryz.prog 186 #[.agg #[.bool true,.int .i64 K1,.int .i64 X1,.int .u64 S1]] W fun e w' => ∃ s,e = .returned (.tuple #[.agg #[s],.int .i64 h,.bool true]) ∧ ai w' s z ∧ Below W.heap.size W w')) (hz : Hid (z < pw 100))  (HE : Hid (∀ (a : Option Addr) (m c : Nat) (W : World),ai W (.slice a m c) (z + 1) → Calls Tryz.prog 185 #[.int .i64 w,.bool true,.agg #[.slice a m c],.int .i64 0] W fun r W' => r = .returned (.int .u64 V) ∧ Below W.heap.size W W')) :
 Calls Tryz.prog 203 #[.int .i64 w,.int .u64 x,.int .i64 2] W fun r W' => r = .returned (.int .u64 V) ∧ Below W.heap.size W W':=by
 go_enter Tryz.func203,Tryz.ntmps203
 go_wp2_with fail
 refine cg1 HO fun w1 hb => ?_
 have HB:=ab (ad hb (.cells #[.bool true,.int .i64 K1,.int .i64 X1,.int .u64 S1] 105))
 have HA:=ab (ak w1 (.bool true) (.int .i64 K1) (.int .i64 X1) (.int .u64 S1) 105)
 have HZ0:=ab hb.size
 clear hb
 obtain ⟨c0,c1,c2,c3⟩:=aa HA
 go_wp2_with fail
 clear c0 c1 c2 c3
 refine (aa HD _).mono ?_
 rintro _ w2 ⟨s2,rfl,hN,hb⟩
 obtain ⟨a2,m2,c2,rfl⟩:=hN.slice
 have HB:=ab (ad (ac (aa HB) hb) (.cells #[.slice a2 m2 c2] 41))
 have HA:=ab (((aa HA).below hb).below (ae _ (.cells #[.slice a2 m2 c2] 41)))
 have HN:=ab (hN.below (ae _ (.cells #[.slice a2 m2 c2] 41)))
 have HM : Hid ((w2.alloc (.cells #[.slice a2 m2 c2] 41)).cell? ⟨w2.heap.size,0,none⟩ = some (.slice a2 m2 c2) ∧ (w2.alloc (.cells #[.slice a2 m2 c2] 41)).frozen? ⟨w2.heap.size,0,none⟩ = false):=⟨by simp [go_sem],by simp [go_sem]⟩
 have HZ : Hid (W.heap.size ≤ w2.heap.size ∧ w1.heap.size < w2.heap.size):=⟨by have:=aa HZ0; have:=hb.size; simp at this; omega,by have:=hb.size; simp at this; omega⟩
 clear hb hN
 obtain ⟨c0,c1,c2',c3⟩:=aa HA
 obtain ⟨cn,fn⟩:=aa HM
 go_wp2_with fail
 clear c0 c1 c2' c3 cn fn
 generalize w2.alloc (.cells #[.slice a2 m2 c2] 41) = w2' at *
 generalize w2' = wq at *
 have HB:=ab (aa HB).drew
 have HA:=ab ((aa HA).below ((Below.refl _ _).drew))
 have HN:=ab ((aa HN).below ((Below.refl _ _).drew))
 have HM:=ab ((aA _ _) _ _ (aa HM) ((Below.refl _ _).drew))
 have cn0:=(aa HM).1
 go_region_with (first
  | (go_at_call 21; refine (dN _).mono ?_; rintro e w8 ⟨s8,rfl,hN8,hbl⟩; obtain ⟨a8,m8,c8,rfl⟩:=hN8.slice; have H8:=ab hN8; have HN8:=ab ((aa HN).below hbl); have HM8:=ab ((aA _ _) _ _ (aa HM) hbl); have HA8:=ab ((aa HA).below hbl); have HB8:=bt HB hbl; clear hbl hN8; have cn8:=(aa HM8).1)
  | (go_at_call 118; refine (bO _ _ _ _ _ _ _ _ _ (aa HN8) (aa H8) (Nat.le_trans ((aa HN8).short (aa hz)) (by omega)) (jn (aa H8))).mono ?_; rintro e w9 ⟨s9,rfl,hN9,hbl⟩; obtain ⟨a9,m9,c9,rfl⟩:=hN9.slice; have H9:=ab hN9; have HM9:=ab ((aA _ _) _ _ (aa HM8) hbl); have HA9:=ab ((aa HA8).below hbl); have HB9:=ab (ac (aa HB8) hbl); clear hbl hN9 cn8; have cn9:=(aa HM9).1; have fn9:=(aa HM9).2))
 all_goals
  have H9:=ab ((aa H9).store cn9 (.slice a9 m9 c9))
  have HB:=ab (aZ (aa HB9) w2.heap.size (aa HZ).1 0 (.slice a9 m9 c9))
  have HA:=ab (At4.set (aa HA9) (Nat.ne_of_lt (aa HZ).2) 0 (.slice a9 m9 c9))
  have cn : (w9.setCell ⟨w2.heap.size,0,none⟩ (.slice a9 m9 c9)).cell? ⟨w2.heap.size,0,none⟩ = some (.slice a9 m9 c9):=World.cell?_setCell_same _ _ _ cn9
  clear cn9 fn9 cn0 HM HM8 HM9 HB8 HB9 HA8 HA9
  generalize w9.setCell ⟨w2.heap.size,0,none⟩ (.slice a9 m9 c9) = wx at *
  obtain ⟨c0,c1,c2',c3⟩:=aa HA
  go_wp2_with fail
  refine (aa HE _ _ _ _ (aa H9)).mono ?_
  rintro _ wz ⟨rfl,hbl⟩
  have HB:=bt HB hbl
  go_wp2_with fail
  go_ret
  exact ⟨rfl,aa HB⟩
theorem acf {w x K1 X1 S1 V : Int} {n1 l : Bool} (W : World) (HO : Ct 101 #[.int .i64 w,.int .u64 x] (.agg #[.bool n1,.int .i64 K1,.int .i64 X1,.int .u64 S1])) (z : Nat) (k3 : (K1 == 3) = false) (k1 : (K1 != 1) = false) (HD : Hid (∀ W,Calls Tryz.prog 186 #[.agg #[.bool n1,.int .i64 K1,.int .i64 X1,.int .u64 S1]] W fun e w' => ∃ s,e = .returned (.tuple #[.agg #[s],.int .i64 1,.bool l]) ∧ ai w' s z ∧ Below W.heap.size W w')) (hz : Hid (z < pw 100))  (HE : Hid (∀ (a : Option Addr) (m c : Nat) (W : World),ai W (.slice a m c) (z + 1) → Calls Tryz.prog 185 #[.int .i64 w,.bool n1,.agg #[.slice a m c],.int .i64 0] W fun r W' => r = .returned (.int .u64 V) ∧ Below W.heap.size W W')) :
 Calls Tryz.prog 203 #[.int .i64 w,.int .u64 x,.int .i64 4] W fun r W' => r = .returned (.int .u64 V) ∧ Below W.heap.size W W':=by
 go_enter Tryz.func203,Tryz.ntmps203
 go_wp2_with fail
 refine cg1 HO fun w1 hb => ?_
 have HB:=ab (ad hb (.cells #[.bool n1,.int .i64 K1,.int .i64 X1,.int .u64 S1] 105))
 have HA:=ab (ak w1 (.bool n1) (.int .i64 K1) (.int .i64 X1) (.int .u64 S1) 105)
 have HZ0:=ab hb.size
 clear hb
 obtain ⟨c0,c1,c2,c3⟩:=aa HA
 go_wp2_with fail
 clear c0 c1 c2 c3
 refine (aa HD _).mono ?_
 rintro _ w2 ⟨s2,rfl,hN,hb⟩
 obtain ⟨a2,m2,c2,rfl⟩:=hN.slice
 have HB:=ab (ad (ac (aa HB) hb) (.cells #[.slice a2 m2 c2] 41))
 have HA:=ab (((aa HA).below hb).below (ae _ (.cells #[.slice a2 m2 c2] 41)))
 have HN:=ab (hN.below (ae _ (.cells #[.slice a2 m2 c2] 41)))
 have HM : Hid ((w2.alloc (.cells #[.slice a2 m2 c2] 41)).cell? ⟨w2.heap.size,0,none⟩ = some (.slice a2 m2 c2) ∧ (w2.alloc (.cells #[.slice a2 m2 c2] 41)).frozen? ⟨w2.heap.size,0,none⟩ = false):=⟨by simp [go_sem],by simp [go_sem]⟩
 have HZ : Hid (W.heap.size ≤ w2.heap.size ∧ w1.heap.size < w2.heap.size):=⟨by have:=aa HZ0; have:=hb.size; simp at this; omega,by have:=hb.size; simp at this; omega⟩
 clear hb hN
 obtain ⟨c0,c1,c2',c3⟩:=aa HA
 obtain ⟨cn,fn⟩:=aa HM
 go_wp2_with fail
 clear c0 c1 c2' c3 cn fn
 generalize w2.alloc (.cells #[.slice a2 m2 c2] 41) = w2' at *
 generalize w2' = wq at *
 have HB:=ab (aa HB).drew
 have HA:=ab ((aa HA).below ((Below.refl _ _).drew))
 have HN:=ab ((aa HN).below ((Below.refl _ _).drew))
 have HM:=ab ((aA _ _) _ _ (aa HM) ((Below.refl _ _).drew))
 have cn0:=(aa HM).1
 go_region_with (first
  | (go_at_call 21; refine (dN _).mono ?_; rintro e w8 ⟨s8,rfl,hN8,hbl⟩; obtain ⟨a8,m8,c8,rfl⟩:=hN8.slice; have H8:=ab hN8; have HN8:=ab ((aa HN).below hbl); have HM8:=ab ((aA _ _) _ _ (aa HM) hbl); have HA8:=ab ((aa HA).below hbl); have HB8:=bt HB hbl; clear hbl hN8; have cn8:=(aa HM8).1)
  | (go_at_call 118; refine (bO _ _ _ _ _ _ _ _ _ (aa HN8) (aa H8) (Nat.le_trans ((aa HN8).short (aa hz)) (by omega)) (jn (aa H8))).mono ?_; rintro e w9 ⟨s9,rfl,hN9,hbl⟩; obtain ⟨a9,m9,c9,rfl⟩:=hN9.slice; have H9:=ab hN9; have HM9:=ab ((aA _ _) _ _ (aa HM8) hbl); have HA9:=ab ((aa HA8).below hbl); have HB9:=ab (ac (aa HB8) hbl); clear hbl hN9 cn8; have cn9:=(aa HM9).1; have fn9:=(aa HM9).2))
 all_goals
  have H9:=ab ((aa H9).store cn9 (.slice a9 m9 c9))
  have HB:=ab (aZ (aa HB9) w2.heap.size (aa HZ).1 0 (.slice a9 m9 c9))
  have HA:=ab (At4.set (aa HA9) (Nat.ne_of_lt (aa HZ).2) 0 (.slice a9 m9 c9))
  have cn : (w9.setCell ⟨w2.heap.size,0,none⟩ (.slice a9 m9 c9)).cell? ⟨w2.heap.size,0,none⟩ = some (.slice a9 m9 c9):=World.cell?_setCell_same _ _ _ cn9
  clear cn9 fn9 cn0 HM HM8 HM9 HB8 HB9 HA8 HA9
  generalize w9.setCell ⟨w2.heap.size,0,none⟩ (.slice a9 m9 c9) = wx at *
  obtain ⟨c0,c1,c2',c3⟩:=aa HA
  go_wp2_with fail
  refine (aa HE _ _ _ _ (aa H9)).mono ?_
  rintro _ wz ⟨rfl,hbl⟩
  have HB:=bt HB hbl
  go_wp2_with fail
  go_ret
  exact ⟨rfl,aa HB⟩
theorem acg {w x K1 X1 S1 V o : Int} {n1 l : Bool} (W : World) (HO : Ct 101 #[.int .i64 w,.int .u64 x] (.agg #[.bool n1,.int .i64 K1,.int .i64 X1,.int .u64 S1])) (z : Nat) (k3 : (K1 == 3) = false) (k1 : (K1 != 1) = false) (HD : Hid (∀ W,Calls Tryz.prog 186 #[.agg #[.bool n1,.int .i64 K1,.int .i64 X1,.int .u64 S1]] W fun e w' => ∃ s,e = .returned (.tuple #[.agg #[s],.int .i64 0,.bool l]) ∧ ai w' s z ∧ Below W.heap.size W w')) (hz : Hid (z < pw 100)) (HL : Hid (lo z = o)) (km : o.tmod 2 = 1) (HE : Hid (∀ (a : Option Addr) (m c : Nat) (W : World),ai W (.slice a m c) (z + 1) → Calls Tryz.prog 185 #[.int .i64 w,.bool n1,.agg #[.slice a m c],.int .i64 0] W fun r W' => r = .returned (.int .u64 V) ∧ Below W.heap.size W W')) :
 Calls Tryz.prog 203 #[.int .i64 w,.int .u64 x,.int .i64 4] W fun r W' => r = .returned (.int .u64 V) ∧ Below W.heap.size W W':=by
 go_enter Tryz.func203,Tryz.ntmps203
 go_wp2_with fail
 refine cg1 HO fun w1 hb => ?_
 have HB:=ab (ad hb (.cells #[.bool n1,.int .i64 K1,.int .i64 X1,.int .u64 S1] 105))
 have HA:=ab (ak w1 (.bool n1) (.int .i64 K1) (.int .i64 X1) (.int .u64 S1) 105)
 have HZ0:=ab hb.size
 clear hb
 obtain ⟨c0,c1,c2,c3⟩:=aa HA
 go_wp2_with fail
 clear c0 c1 c2 c3
 refine (aa HD _).mono ?_
 rintro _ w2 ⟨s2,rfl,hN,hb⟩
 obtain ⟨a2,m2,c2,rfl⟩:=hN.slice
 have HB:=ab (ad (ac (aa HB) hb) (.cells #[.slice a2 m2 c2] 41))
 have HA:=ab (((aa HA).below hb).below (ae _ (.cells #[.slice a2 m2 c2] 41)))
 have HN:=ab (hN.below (ae _ (.cells #[.slice a2 m2 c2] 41)))
 have HM : Hid ((w2.alloc (.cells #[.slice a2 m2 c2] 41)).cell? ⟨w2.heap.size,0,none⟩ = some (.slice a2 m2 c2) ∧ (w2.alloc (.cells #[.slice a2 m2 c2] 41)).frozen? ⟨w2.heap.size,0,none⟩ = false):=⟨by simp [go_sem],by simp [go_sem]⟩
 have HZ : Hid (W.heap.size ≤ w2.heap.size ∧ w1.heap.size < w2.heap.size):=⟨by have:=aa HZ0; have:=hb.size; simp at this; omega,by have:=hb.size; simp at this; omega⟩
 clear hb hN
 obtain ⟨c0,c1,c2',c3⟩:=aa HA
 obtain ⟨cn,fn⟩:=aa HM
 go_wp2_with fail
 clear c0 c1 c2' c3 cn fn
 generalize w2.alloc (.cells #[.slice a2 m2 c2] 41) = w2' at *
 refine (ek _ _ _ _ _ (aa HN)).mono ?_
 rw [aa HL]
 rintro _ w3 ⟨rfl,hb⟩
 have HB:=bt HB hb
 have HA:=ab ((aa HA).below hb)
 have HN:=ab ((aa HN).below hb)
 have HM:=ab ((aA _ _) _ _ (aa HM) hb)
 clear hb
 obtain ⟨c0,c1,c2',c3⟩:=aa HA
 obtain ⟨cn,fn⟩:=aa HM
 go_wp2_with fail
 clear c0 c1 c2' c3 cn fn
 generalize w3 = wq at *
 have HB:=ab (aa HB).drew
 have HA:=ab ((aa HA).below ((Below.refl _ _).drew))
 have HN:=ab ((aa HN).below ((Below.refl _ _).drew))
 have HM:=ab ((aA _ _) _ _ (aa HM) ((Below.refl _ _).drew))
 have cn0:=(aa HM).1
 go_region_with (first
  | (go_at_call 21; refine (dN _).mono ?_; rintro e w8 ⟨s8,rfl,hN8,hbl⟩; obtain ⟨a8,m8,c8,rfl⟩:=hN8.slice; have H8:=ab hN8; have HN8:=ab ((aa HN).below hbl); have HM8:=ab ((aA _ _) _ _ (aa HM) hbl); have HA8:=ab ((aa HA).below hbl); have HB8:=bt HB hbl; clear hbl hN8; have cn8:=(aa HM8).1)
  | (go_at_call 118; refine (bO _ _ _ _ _ _ _ _ _ (aa HN8) (aa H8) (Nat.le_trans ((aa HN8).short (aa hz)) (by omega)) (jn (aa H8))).mono ?_; rintro e w9 ⟨s9,rfl,hN9,hbl⟩; obtain ⟨a9,m9,c9,rfl⟩:=hN9.slice; have H9:=ab hN9; have HM9:=ab ((aA _ _) _ _ (aa HM8) hbl); have HA9:=ab ((aa HA8).below hbl); have HB9:=ab (ac (aa HB8) hbl); clear hbl hN9 cn8; have cn9:=(aa HM9).1; have fn9:=(aa HM9).2))
 all_goals
  have H9:=ab ((aa H9).store cn9 (.slice a9 m9 c9))
  have HB:=ab (aZ (aa HB9) w2.heap.size (aa HZ).1 0 (.slice a9 m9 c9))
  have HA:=ab (At4.set (aa HA9) (Nat.ne_of_lt (aa HZ).2) 0 (.slice a9 m9 c9))
  have cn : (w9.setCell ⟨w2.heap.size,0,none⟩ (.slice a9 m9 c9)).cell? ⟨w2.heap.size,0,none⟩ = some (.slice a9 m9 c9):=World.cell?_setCell_same _ _ _ cn9
  clear cn9 fn9 cn0 HM HM8 HM9 HB8 HB9 HA8 HA9
  generalize w9.setCell ⟨w2.heap.size,0,none⟩ (.slice a9 m9 c9) = wx at *
  obtain ⟨c0,c1,c2',c3⟩:=aa HA
  go_wp2_with fail
  refine (aa HE _ _ _ _ (aa H9)).mono ?_
  rintro _ wz ⟨rfl,hbl⟩
  have HB:=bt HB hbl
  go_wp2_with fail
  go_ret
  exact ⟨rfl,aa HB⟩
theorem ach {w x K1 X1 S1 V o : Int} {n1 l : Bool} (W : World) (HO : Ct 101 #[.int .i64 w,.int .u64 x] (.agg #[.bool n1,.int .i64 K1,.int .i64 X1,.int .u64 S1])) (z : Nat) (k3 : (K1 == 3) = false) (k1 : (K1 != 1) = false) (HD : Hid (∀ W,Calls Tryz.prog 186 #[.agg #[.bool n1,.int .i64 K1,.int .i64 X1,.int .u64 S1]] W fun e w' => ∃ s,e = .returned (.tuple #[.agg #[s],.int .i64 0,.bool l]) ∧ ai w' s z ∧ Below W.heap.size W w')) (HL : Hid (lo z = o)) (km : o.tmod 2 = 0) (HE : Hid (∀ (a : Option Addr) (m c : Nat) (W : World),ai W (.slice a m c) (z) → Calls Tryz.prog 185 #[.int .i64 w,.bool n1,.agg #[.slice a m c],.int .i64 0] W fun r W' => r = .returned (.int .u64 V) ∧ Below W.heap.size W W')) :
 Calls Tryz.prog 203 #[.int .i64 w,.int .u64 x,.int .i64 4] W fun r W' => r = .returned (.int .u64 V) ∧ Below W.heap.size W W':=by
 go_enter Tryz.func203,Tryz.ntmps203
 go_wp2_with fail
 refine cg1 HO fun w1 hb => ?_
 have HB:=ab (ad hb (.cells #[.bool n1,.int .i64 K1,.int .i64 X1,.int .u64 S1] 105))
 have HA:=ab (ak w1 (.bool n1) (.int .i64 K1) (.int .i64 X1) (.int .u64 S1) 105)
 have HZ0:=ab hb.size
 clear hb
 obtain ⟨c0,c1,c2,c3⟩:=aa HA
 go_wp2_with fail
 clear c0 c1 c2 c3
 refine (aa HD _).mono ?_
 rintro _ w2 ⟨s2,rfl,hN,hb⟩
 obtain ⟨a2,m2,c2,rfl⟩:=hN.slice
 have HB:=ab (ad (ac (aa HB) hb) (.cells #[.slice a2 m2 c2] 41))
 have HA:=ab (((aa HA).below hb).below (ae _ (.cells #[.slice a2 m2 c2] 41)))
 have HN:=ab (hN.below (ae _ (.cells #[.slice a2 m2 c2] 41)))
 have HM : Hid ((w2.alloc (.cells #[.slice a2 m2 c2] 41)).cell? ⟨w2.heap.size,0,none⟩ = some (.slice a2 m2 c2) ∧ (w2.alloc (.cells #[.slice a2 m2 c2] 41)).frozen? ⟨w2.heap.size,0,none⟩ = false):=⟨by simp [go_sem],by simp [go_sem]⟩
 have HZ : Hid (W.heap.size ≤ w2.heap.size ∧ w1.heap.size < w2.heap.size):=⟨by have:=aa HZ0; have:=hb.size; simp at this; omega,by have:=hb.size; simp at this; omega⟩
 clear hb hN
 obtain ⟨c0,c1,c2',c3⟩:=aa HA
 obtain ⟨cn,fn⟩:=aa HM
 go_wp2_with fail
 clear c0 c1 c2' c3 cn fn
 generalize w2.alloc (.cells #[.slice a2 m2 c2] 41) = w2' at *
 refine (ek _ _ _ _ _ (aa HN)).mono ?_
 rw [aa HL]
 rintro _ w3 ⟨rfl,hb⟩
 have HB:=bt HB hb
 have HA:=ab ((aa HA).below hb)
 have HN:=ab ((aa HN).below hb)
 have HM:=ab ((aA _ _) _ _ (aa HM) hb)
 clear hb
 obtain ⟨c0,c1,c2',c3⟩:=aa HA
 obtain ⟨cn,fn⟩:=aa HM
 go_wp2_with fail
 clear c0 c1 c2' c3 cn fn
 refine (aa HE _ _ _ _ (aa HN)).mono ?_
 rintro _ wz ⟨rfl,hbl⟩
 have HB:=bt HB hbl
 go_wp2_with fail
 go_ret
 exact ⟨rfl,aa HB⟩
theorem ac7 (v : Nat) (w : World) (hv : W2 v) :
 Calls Tryz.prog 251 #[.int .u64 (hi v),.int .u64 (lo v)] w fun e w' => ∃ s',e = .returned (.agg #[s']) ∧ ai w' s' v ∧ Below w.heap.size w w':=by
 have h1:=zx hv
 have HV : Hid ((hi v).toNat * 2 ^ 64 + (lo v).toNat = v):=by unfold Hid hi lo; rw [Int.toNat_natCast,Int.toNat_natCast,show (2 : Nat) ^ 64 = 18446744073709551616 from rfl]; omega
 have HH:=ab h1
 clear h1
 go_enter Tryz.func251,Tryz.ntmps251
 go_wp2_with fail
 refine (aE (hi v) _ (nD v) (aa HH)).mono ?_
 rintro e w1 ⟨s1,rfl,hN1,hb1⟩
 obtain ⟨a1,n1,c1,rfl⟩:=hN1.slice
 have H1:=ab hN1
 clear hN1
 go_wp2_with fail
 refine (agf _ _ _ _ _ (aa H1) (Nat.le_trans ((aa H1).short (k:=2) (by rw [lu]; have:=aa HH; have:=nD v; omega)) (by omega))).mono ?_
 rintro e w2 ⟨s2,rfl,hN2,hb2⟩
 obtain ⟨a2,n2,c2,rfl⟩:=hN2.slice
 have H2:=ab hN2
 clear hN2
 go_wp2_with fail
 refine (aE (lo v) _ (ml v) (oZ v)).mono ?_
 rintro e w3 ⟨s3,rfl,hN3,hb3⟩
 obtain ⟨a3,n3,c3,rfl⟩:=hN3.slice
 have H3:=ab hN3
 have H2':=ab ((aa H2).below hb3)
 clear hN3
 go_wp2_with fail
 refine (bO _ _ _ _ _ _ _ _ _ (aa H2') (aa H3) (Nat.le_trans ((aa H2').short (k:=4) (by rw [rh]; have:=aa HV; unfold W2 at hv; omega)) (by omega)) (Nat.le_trans ((aa H3).short (k:=2) (by rw [lu]; have:=oZ v; have:=ml v; omega)) (by omega))).mono ?_
 rintro e w4 ⟨s4,rfl,hN4,hb4⟩
 obtain ⟨a4,n4,c4,rfl⟩:=hN4.slice
 rw [aa HV] at hN4
 have H4:=ab hN4
 have HB:=ab (ac (ac (ac (ac (ae w (.cells #[.slice none 0 0] 41)) hb1) hb2) hb3) hb4)
 have hB:=ac (ac (ac hb1 hb2) hb3) hb4
 have hc0 : w4.cell? ⟨w.heap.size,0,none⟩ = some (.slice none 0 0):=by rw [hB.cell (by simp)]; simp [go_sem]
 have hf0 : w4.frozen? ⟨w.heap.size,0,none⟩ = false:=by rw [hB.frozen (by simp)]; simp [go_sem]
 clear hN4 hB
 go_wp2
 refine bodyPost_ret (v:=.agg #[.slice a4 n4 c4]) (by simp [results,Tryz.results251,go_sem,hc0]) rfl ⟨_,rfl,(aa H4).store hc0 _,?_⟩
 exact (aa HB).setCell (by simp) _
theorem tl {w X V : Int} {n : Bool} (v : Nat) (w0 : World) (hv : W2 v) (xa : ¬ X < -10000) (xb : ¬ 10000 < X) (kx : IntKind.i64.wrap (X - 1) = X - 1)
 (HE : Hid (∀ (a : Option Addr) (na ca : Nat) (W : World),ai W (.slice a na ca) (v * 2 ^ 1) → Calls Tryz.prog 185 #[.int .i64 w,.bool n,.agg #[.slice a na ca],.int .i64 (X - 1)] W fun r W' => r = .returned (.int .u64 V) ∧ Below W.heap.size W W')) :
 Calls Tryz.prog 175 #[.int .i64 w,.bool n,.int .u64 (hi v),.int .u64 (lo v),.int .i64 X,.bool false] w0 fun r W' => r = .returned (.int .u64 V) ∧ Below w0.heap.size w0 W':=by
 go_enter Tryz.func175,Tryz.ntmps175
 go_wp2_with fail
 refine (ac7 v _ hv).mono ?_
 rintro _ w1 ⟨s1,rfl,hN1,hb1⟩
 obtain ⟨a1,n1,c1,rfl⟩:=hN1.slice
 go_wp2_with fail
 refine (ia _ _ _ _ _ hN1 (Nat.le_trans (hN1.short (k:=4) (by rw [rh]; exact hv)) (by omega))).mono ?_
 rintro _ w2 ⟨s2,rfl,hN2,hb2⟩
 obtain ⟨a2,n2,c2,rfl⟩:=hN2.slice
 have HB:=ab (ad (ac hb1 hb2) (.cells #[.slice a2 n2 c2] 41))
 have hz2 : w0.heap.size ≤ w2.heap.size:=(ac hb1 hb2).size
 have H2:=ab (hN2.below (ae _ (.cells #[.slice a2 n2 c2] 41)))
 clear hb1 hb2 hN1 hN2
 go_wp2_with fail
 refine (aa HE _ _ _ _ (aa H2)).mono ?_
 rintro _ wz ⟨rfl,hbl⟩
 have HB:=bt HB hbl
 go_wp2_with fail
 go_ret
 exact ⟨rfl,aa HB⟩
theorem mj {w K X S V : Int} {n : Bool} (W : World) (k0 : (K == 0) = true) (HC : Hid (∀ W,Calls Tryz.prog 174 #[.int .i64 w,.bool n,.int .i64 0,.int .u64 0] W fun r W' => r = .returned (.int .u64 V) ∧ Below W.heap.size W W')) :
 Calls Tryz.prog 100 #[.int .i64 w,.agg #[.bool n,.int .i64 K,.int .i64 X,.int .u64 S]] W fun r W' => r = .returned (.int .u64 V) ∧ Below W.heap.size W W':=by
 go_enter Tryz.func100,Tryz.ntmps100
 go_wp2_with fail
 refine cg1 HC fun w1 hb => ?_
 have HB:=ab (ac (ae _ _) hb)
 clear hb
 go_wp2_with fail
 go_ret
 exact ⟨rfl,aa HB⟩
theorem mx {w K X S V : Int} {n : Bool} (W : World) (k0 : (K == 0) = false) (k1 : (K == 1) = true) (HC : Hid (∀ W,Calls Tryz.prog 175 #[.int .i64 w,.bool n,.int .u64 0,.int .u64 S,.int .i64 X,.bool false] W fun r W' => r = .returned (.int .u64 V) ∧ Below W.heap.size W W')) :
 Calls Tryz.prog 100 #[.int .i64 w,.agg #[.bool n,.int .i64 K,.int .i64 X,.int .u64 S]] W fun r W' => r = .returned (.int .u64 V) ∧ Below W.heap.size W W':=by
 go_enter Tryz.func100,Tryz.ntmps100
 go_wp2_with fail
 refine cg1 HC fun w1 hb => ?_
 have HB:=ab (ac (ae _ _) hb)
 clear hb
 go_wp2_with fail
 go_ret
 exact ⟨rfl,aa HB⟩
theorem my {w K X S V : Int} {n : Bool} (W : World) (k0 : (K == 0) = false) (k1 : (K == 1) = false) (k2 : (K == 2) = true) (HC : Hid (∀ W,Calls Tryz.prog 176 #[.int .i64 w,.bool n] W fun r W' => r = .returned (.int .u64 V) ∧ Below W.heap.size W W')) :
 Calls Tryz.prog 100 #[.int .i64 w,.agg #[.bool n,.int .i64 K,.int .i64 X,.int .u64 S]] W fun r W' => r = .returned (.int .u64 V) ∧ Below W.heap.size W W':=by
 go_enter Tryz.func100,Tryz.ntmps100
 go_wp2_with fail
 refine cg1 HC fun w1 hb => ?_
 have HB:=ab (ac (ae _ _) hb)
 clear hb
 go_wp2_with fail
 go_ret
 exact ⟨rfl,aa HB⟩
theorem mz {w K X S V : Int} {n : Bool} (W : World) (k0 : (K == 0) = false) (k1 : (K == 1) = false) (k2 : (K == 2) = false) (k3 : (K == 3) = true) (HC : Hid (∀ W,Calls Tryz.prog 177 #[.int .i64 w] W fun r W' => r = .returned (.int .u64 V) ∧ Below W.heap.size W W')) :
 Calls Tryz.prog 100 #[.int .i64 w,.agg #[.bool n,.int .i64 K,.int .i64 X,.int .u64 S]] W fun r W' => r = .returned (.int .u64 V) ∧ Below W.heap.size W W':=by
 go_enter Tryz.func100,Tryz.ntmps100
 go_wp2_with fail
 refine cg1 HC fun w1 hb => ?_
 have HB:=ab (ac (ae _ _) hb)
 clear hb
 go_wp2_with fail
 go_ret
 exact ⟨rfl,aa HB⟩
theorem mA {w K X S : Int} {n : Bool} (W : World) (k0 : (K == 0) = false) (k1 : (K == 1) = false) (k2 : (K == 2) = false) (k3 : (K == 3) = false) :
 Calls Tryz.prog 100 #[.int .i64 w,.agg #[.bool n,.int .i64 K,.int .i64 X,.int .u64 S]] W fun r W' => r = .returned (.int .u64 0) ∧ Below W.heap.size W W':=by
 go_enter Tryz.func100,Tryz.ntmps100
 go_wp2_with fail
 go_ret
 exact ⟨rfl,ae _ _⟩
theorem tm {w e f P Q b : Int} (kd : Kd w e f P Q b) (n : Bool) (v : Nat) (X : Int) (hv : W2 v) (h1 : ¬ X < -10000) (h2 : ¬ 10000 < X) (W : World) :
 Calls Tryz.prog 175 #[.int .i64 w,.bool n,.int .u64 (hi v),.int .u64 (lo v),.int .i64 X,.bool false] W fun r W' => r = .returned (.int .u64 (fl f P Q n (lid P Q (aO f.toNat (av f b) (num v false (cap X)) : Nat)))) ∧ Below W.heap.size W W':=by
 rw [← se kd n false v X hv]
 have h140:=amk hv false
 have hE:=fun (a : Option Addr) (na ca : Nat) (W : World) hx => jx (k:=mq X) (n:=n) kd (2 * v + Bool.toNat false) h140 a na ca W hx
 rw [show 2 * v + Bool.toNat false = v * 2 ^ 1 by simp; omega] at hE ⊢
 have : mq X = X - 1:=by unfold mq; rw [if_neg h1,if_neg h2]
 rw [this] at hE ⊢
 exact tl v W hv h1 h2 (aj (by omega) (by omega)) (ab hE)
theorem ox {w e f P Q b : Int} (k : Kd w e f P Q b) (n : Bool) (K X S : Int) (s0 : 0 ≤ S) (s1 : S < 18446744073709551616) (h1 : ¬ X < -10000) (h2 : ¬ 10000 < X) (W : World) :
 Calls Tryz.prog 100 #[.int .i64 w,.agg #[.bool n,.int .i64 K,.int .i64 X,.int .u64 S]] W fun r W' => r = .returned (.int .u64 (cV f P Q b n K X S)) ∧ Below W.heap.size W W':=by
 obtain ⟨p1,p2,q1,q2⟩:=k.pos
 unfold cV
 by_cases k0 : K = 0
 ·rw [if_pos k0]
  exact mj W (aH k0) (ab (fun W => eQ n 0 0 k W (by omega) (by omega) (by omega) (by omega)))
 ·rw [if_neg k0]
  by_cases k1 : K = 1
  ·rw [if_pos k1]
   obtain ⟨e1,e2⟩:=o0 S s0 s1
   have h:=fun W => tm k n S.toNat X (en s0 s1) h1 h2 W
   rw [e1,e2] at h
   exact mx W (au k0) (aH k1) (ab h)
  ·rw [if_neg k1]
   by_cases k2 : K = 2
   ·rw [if_pos k2]
    exact my W (au k0) (au k1) (aH k2) (ab (fun W => cP n k W))
   ·rw [if_neg k2]
    by_cases k3 : K = 3
    ·rw [if_pos k3]
     exact mz W (au k0) (au k1) (au k2) (aH k3) (ab (fun W => bN k W))
    ·rw [if_neg k3]
     exact mA W (au k0) (au k1) (au k2) (au k3)
end Go.Proofs.YtpbgpdmffejdgaaGreatDoor
