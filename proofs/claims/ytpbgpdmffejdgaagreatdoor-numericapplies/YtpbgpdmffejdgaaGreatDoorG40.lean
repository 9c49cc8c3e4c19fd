/- MInG, MQuoC. -/
import Derived.Test.YtpbgpdmffejdgaaGreatDoorG01
import Derived.Test.YtpbgpdmffejdgaaGreatDoorG15
import Derived.Test.YtpbgpdmffejdgaaGreatDoorG16
import Derived.Test.YtpbgpdmffejdgaaGreatDoorG20
import Derived.Test.YtpbgpdmffejdgaaGreatDoorG21
import Derived.Test.YtpbgpdmffejdgaaGreatDoorG27
import Derived.Test.YtpbgpdmffejdgaaGreatDoorG30
import Derived.Test.YtpbgpdmffejdgaaGreatDoorG32
namespace Go.Proofs.YtpbgpdmffejdgaaGreatDoor
set_option maxHeartbeats 4000000
set_option maxRecDepth 100000
open Go.RowKit
theorem ajn {a : Int} {n A r : Nat} {up : Bool} (hn : n ≤ 64) (hr : r ≤ n) (hz : ∀ i,i < r → A.testBit (if up then n - 1 - i else i) = false) (ht : r < n → A.testBit (if up then n - 1 - r else r) = true) (HL : Hid (∀ W,Calls Tryz.prog 172 #[.int .i64 (n : Int),.int .u64 a] W fun e w' => ∃ s,e = .returned s ∧ db w' s A.testBit n ∧ Below W.heap.size W w')) :
 Ct 194 #[.int .i64 (n : Int),.int .u64 a,.bool up] (.int .u64 (r : Int)):=by
 have HZ:=ab hz
 have HT:=ab ht
 clear hz ht
 refine ab (fun W => ?_)
 go_enter Tryz.func194,Tryz.ntmps194
 go_wp2_with fail
 refine (aa HL _).mono ?_
 rintro _ w1 ⟨s1,rfl,hH,hb⟩
 have HW:=ab hb
 obtain ⟨b,c,rfl,h2,h3,h4⟩:=hH
 have H4:=ab h4
 clear hb h4
 go_wp2_with fail
 go_loop [8,9] (fun v8 v9 => ∃ i : Nat,i ≤ r ∧ v8 = .int .u64 (i : Int) ∧ v9 = .int .i64 (i : Int)) (fun _ v9 => n - (intOf v9).toNat)
 case atStart => exact ⟨0,by omega,rfl,rfl⟩
 case round =>
  obtain ⟨i,hi,rfl,rfl⟩:=hrel
  have ew : IntKind.u64.wrap ((i : Int) + 1) = (i : Int) + 1:=by rw [IntKind.wrap_u64]; omega
  by_cases hc : i < n
  ·have hq : i < r → A.testBit (if up then n - 1 - i else i) = false:=aa HZ i
   have hq2 : i = r → A.testBit (if up then n - 1 - i else i) = true:=fun h => by subst h; exact aa HT hc
   cases up
   ·have hcm:=aa H4 i hc
    rw [if_neg (by decide)] at hq hq2
    by_cases h : i < r
    ·rw [hq h] at hcm
     go_wp2_with fail
     exact ⟨⟨i + 1,by omega,by go_num,by go_num⟩,by simp [intOf]; omega⟩
    ·rw [hq2 (by omega)] at hcm
     have hir : i = r:=by omega
     subst hir
     go_wp2_with fail
     go_ret
     exact ⟨rfl,aa HW⟩
   ·rw [if_pos rfl] at hq hq2
    have hcm:=aa H4 (n - 1 - i) (by omega)
    have hK : (n : Int) - 1 - (i : Int) = ((n - 1 - i : Nat) : Int):=by omega
    have hKn : n - 1 - i < n:=by omega
    generalize n - 1 - i = K at *
    by_cases h : i < r
    ·rw [hq h] at hcm
     go_wp2_with fail
     exact ⟨⟨i + 1,by omega,by go_num,by go_num⟩,by simp [intOf]; omega⟩
    ·rw [hq2 (by omega)] at hcm
     have hir : i = r:=by omega
     subst hir
     go_wp2_with fail
     go_ret
     exact ⟨rfl,aa HW⟩
  ·have hir : i = r:=by omega
   subst hir
   go_wp2_with fail
   go_ret
   exact ⟨rfl,aa HW⟩
theorem af4 {a : Int} {n A : Nat} (hn : n ≤ 64) (HL : Hid (∀ W,Calls Tryz.prog 172 #[.int .i64 (n : Int),.int .u64 a] W fun e w' => ∃ s,e = .returned s ∧ db w' s A.testBit n ∧ Below W.heap.size W w')) :
 Ct 195 #[.int .i64 (n : Int),.int .u64 a] (.int .u64 (pop n A : Nat)):=by
 refine ab (fun W => ?_)
 go_enter Tryz.func195,Tryz.ntmps195
 go_wp2_with fail
 refine (aa HL _).mono ?_
 rintro _ w1 ⟨s1,rfl,hH,hb⟩
 have HW:=ab hb
 obtain ⟨b,c,rfl,h2,h3,h4⟩:=hH
 have H4:=ab h4
 clear hb h4
 go_wp2_with fail
 go_loop [6,7] (fun v6 v7 => ∃ i : Nat,i ≤ n ∧ v6 = .int .u64 ((pop i A : Nat) : Int) ∧ v7 = .int .i64 (i : Int)) (fun _ v7 => n - (intOf v7).toNat)
 case atStart => exact ⟨0,by omega,rfl,rfl⟩
 case round =>
  obtain ⟨i,hi,rfl,rfl⟩:=hrel
  have hp:=afp i A
  have hle:=eX i A
  by_cases hc : i < n
  ·have hcm:=aa H4 i hc
   generalize pop i A = z at *
   have ew : IntKind.u64.wrap ((z : Int) + 1) = (z : Int) + 1:=by rw [IntKind.wrap_u64]; omega
   cases hg : A.testBit i
   ·rw [hg] at hcm hp
    have hp' : pop (i + 1) A = z:=hp
    go_wp2_with fail
    exact ⟨⟨i + 1,by omega,by rw [hp'],by go_num⟩,by simp [intOf]; omega⟩
   ·rw [hg] at hcm hp
    have hp' : pop (i + 1) A = z + 1:=hp
    go_wp2_with fail
    exact ⟨⟨i + 1,by omega,by rw [hp']; rfl,by go_num⟩,by simp [intOf]; omega⟩
  ·have hin : i = n:=by omega
   subst hin
   go_wp2_with fail
   go_ret
   exact ⟨rfl,aa HW⟩
theorem af5 {w a b m n : Int} (H1 : Ct 184 #[.int .i64 w,.int .u64 a] (.tuple #[.bool true,.int .u64 m])) (H2 : Ct 184 #[.int .i64 w,.int .u64 b] (.tuple #[.bool true,.int .u64 n])) : Ct 254 #[.int .i64 w,.int .u64 a,.int .u64 b] (.bool (decide (n < m))):=by
 refine ab (fun W => ?_)
 have HB:=rf W
 go_enter Tryz.func254,Tryz.ntmps254
 go_wp2_with fail
 refine cg0 H1 HB fun w1 HB => ?_
 go_wp2_with fail
 refine cg0 H2 HB fun w2 HB => ?_
 go_wp2_with fail
 go_ret
 exact ⟨rfl,aa HB⟩
theorem af6 {w a b m n : Int} (H1 : Ct 184 #[.int .i64 w,.int .u64 a] (.tuple #[.bool true,.int .u64 m])) (H2 : Ct 184 #[.int .i64 w,.int .u64 b] (.tuple #[.bool false,.int .u64 n])) : Ct 254 #[.int .i64 w,.int .u64 a,.int .u64 b] (.bool true):=by
 refine ab (fun W => ?_)
 have HB:=rf W
 go_enter Tryz.func254,Tryz.ntmps254
 go_wp2_with fail
 refine cg0 H1 HB fun w1 HB => ?_
 go_wp2_with fail
 refine cg0 H2 HB fun w2 HB => ?_
 go_wp2_with fail
 go_ret
 exact ⟨rfl,aa HB⟩
theorem af7 {w a b m n : Int} (H1 : Ct 184 #[.int .i64 w,.int .u64 a] (.tuple #[.bool false,.int .u64 m])) (H2 : Ct 184 #[.int .i64 w,.int .u64 b] (.tuple #[.bool true,.int .u64 n])) : Ct 254 #[.int .i64 w,.int .u64 a,.int .u64 b] (.bool false):=by
 refine ab (fun W => ?_)
 have HB:=rf W
 go_enter Tryz.func254,Tryz.ntmps254
 go_wp2_with fail
 refine cg0 H1 HB fun w1 HB => ?_
 go_wp2_with fail
 refine cg0 H2 HB fun w2 HB => ?_
 go_wp2_with fail
 go_ret
 exact ⟨rfl,aa HB⟩
theorem af8 {w a b m n : Int} (H1 : Ct 184 #[.int .i64 w,.int .u64 a] (.tuple #[.bool false,.int .u64 m])) (H2 : Ct 184 #[.int .i64 w,.int .u64 b] (.tuple #[.bool false,.int .u64 n])) : Ct 254 #[.int .i64 w,.int .u64 a,.int .u64 b] (.bool (decide (m < n))):=by
 refine ab (fun W => ?_)
 have HB:=rf W
 go_enter Tryz.func254,Tryz.ntmps254
 go_wp2_with fail
 refine cg0 H1 HB fun w1 HB => ?_
 go_wp2_with fail
 refine cg0 H2 HB fun w2 HB => ?_
 go_wp2_with fail
 go_ret
 exact ⟨rfl,aa HB⟩
theorem nH {w H M : Int} {n : Nat} (k : Wm w n H M) {a b : Int} (ha : Rg a) (hb : Rg b) : Ct 254 #[.int .i64 w,.int .u64 a,.int .u64 b] (.bool (decide (sgv H M a < sgv H M b))):=by
 have H1:=iT k ha
 have H2:=iT k hb
 generalize sgv H M a = x at *
 generalize sgv H M b = y at *
 by_cases g1 : x < 0
 ·rw [decide_eq_true g1] at H1
  by_cases g2 : y < 0
  ·rw [decide_eq_true g2] at H2
   rw [show decide (x < y) = decide ((y.natAbs : Int) < (x.natAbs : Int)) from decide_eq_decide.mpr (by omega)]
   exact af5 H1 H2
  ·rw [decide_eq_false g2] at H2
   rw [decide_eq_true (show x < y by omega)]
   exact af6 H1 H2
 ·rw [decide_eq_false g1] at H1
  by_cases g2 : y < 0
  ·rw [decide_eq_true g2] at H2
   rw [decide_eq_false (show ¬ x < y by omega)]
   exact af7 H1 H2
  ·rw [decide_eq_false g2] at H2
   rw [show decide (x < y) = decide ((x.natAbs : Int) < (y.natAbs : Int)) from decide_eq_decide.mpr (by omega)]
   exact af8 H1 H2
set_option maxHeartbeats 2000000
open Go.Proofs.YtpbgpdmffejdgaaGreatDoor.W
theorem uu {w K1 X1 S1 K2 X2 S2 : Int} {n1 n2 : Bool} (W : World) :
 Calls Tryz.prog 242 #[.agg #[.bool n1,.int .i64 K1,.int .i64 X1,.int .u64 S1,.bool n2,.int .i64 K2,.int .i64 X2,.int .u64 S2,.int .i64 w]] W fun r W' => r = .returned (.bool (n1 != n2)) ∧ Below W.heap.size W W':=by
 go_enter Tryz.func242,Tryz.ntmps242
 go_wp2_with fail
 go_ret
 exact ⟨rfl,ae W (.cells #[.bool n1,.int .i64 K1,.int .i64 X1,.int .u64 S1,.bool n2,.int .i64 K2,.int .i64 X2,.int .u64 S2,.int .i64 w] 147)⟩
theorem j5 {w K1 X1 S1 K2 X2 S2 : Int} {n1 n2 : Bool} (W : World) (h : (K1 == K2) = true) :
 Calls Tryz.prog 241 #[.agg #[.bool n1,.int .i64 K1,.int .i64 X1,.int .u64 S1,.bool n2,.int .i64 K2,.int .i64 X2,.int .u64 S2,.int .i64 w]] W fun r W' => r = .returned (.bool (K1 != 1)) ∧ Below W.heap.size W W':=by
 go_enter Tryz.func241,Tryz.ntmps241
 go_wp2_with fail
 go_ret
 exact ⟨rfl,ae W (.cells #[.bool n1,.int .i64 K1,.int .i64 X1,.int .u64 S1,.bool n2,.int .i64 K2,.int .i64 X2,.int .u64 S2,.int .i64 w] 147)⟩
theorem sn {w K1 X1 S1 K2 X2 S2 : Int} {n1 n2 : Bool} (W : World) (h : (K1 == K2) = false) (h1 : (K1 == 3) = true) :
 Calls Tryz.prog 241 #[.agg #[.bool n1,.int .i64 K1,.int .i64 X1,.int .u64 S1,.bool n2,.int .i64 K2,.int .i64 X2,.int .u64 S2,.int .i64 w]] W fun r W' => r = .returned (.bool true) ∧ Below W.heap.size W W':=by
 go_enter Tryz.func241,Tryz.ntmps241
 go_wp2_with fail
 go_ret
 exact ⟨rfl,ae W (.cells #[.bool n1,.int .i64 K1,.int .i64 X1,.int .u64 S1,.bool n2,.int .i64 K2,.int .i64 X2,.int .u64 S2,.int .i64 w] 147)⟩
theorem lZ {w K1 X1 S1 K2 X2 S2 : Int} {n1 n2 : Bool} (W : World) (h : (K1 == K2) = false) (h1 : (K1 == 3) = false) :
 Calls Tryz.prog 241 #[.agg #[.bool n1,.int .i64 K1,.int .i64 X1,.int .u64 S1,.bool n2,.int .i64 K2,.int .i64 X2,.int .u64 S2,.int .i64 w]] W fun r W' => r = .returned (.bool (K2 == 3)) ∧ Below W.heap.size W W':=by
 go_enter Tryz.func241,Tryz.ntmps241
 go_wp2_with fail
 go_ret
 exact ⟨rfl,ae W (.cells #[.bool n1,.int .i64 K1,.int .i64 X1,.int .u64 S1,.bool n2,.int .i64 K2,.int .i64 X2,.int .u64 S2,.int .i64 w] 147)⟩
theorem aba {K1 X1 S1 h l L U h' l' E : Int} {n1 : Bool} (W : World) (HO : Ct 161 #[.int .u64 S1] (.agg #[.int .u64 h,.int .u64 l])) (HL : Ct 233 #[.agg #[.int .u64 h,.int .u64 l]] (.int .i64 L)) (ku : IntKind.i64.wrap (128 - L) = U)
 (HS : Ct 234 #[.agg #[.int .u64 h,.int .u64 l],.int .i64 U] (.agg #[.int .u64 h',.int .u64 l'])) (kx : IntKind.i64.wrap (X1 - U) = E) :
 Calls Tryz.prog 243 #[.agg #[.bool n1,.int .i64 K1,.int .i64 X1,.int .u64 S1]] W fun r W' => r = .returned (.tuple #[.agg #[.int .u64 h',.int .u64 l'],.int .i64 E]) ∧ Below W.heap.size W W':=by
 go_enter Tryz.func243,Tryz.ntmps243
 go_wp2_with fail
 have HB:=ab (aq W (.cells #[.bool n1,.int .i64 K1,.int .i64 X1,.int .u64 S1] 144) (.cells #[.int .u64 0,.int .u64 0] 135))
 have HA:=ab (bD W (.bool n1) (.int .i64 K1) (.int .i64 X1) (.int .u64 S1) 144 (.cells #[.int .u64 0,.int .u64 0] 135))
 have HR : Hid (aS (W.heap.size + 1) 2 ((W.alloc (.cells #[.bool n1,.int .i64 K1,.int .i64 X1,.int .u64 S1] 144)).alloc (.cells #[.int .u64 0,.int .u64 0] 135))):=by
  have:=jr (W.alloc (.cells #[.bool n1,.int .i64 K1,.int .i64 X1,.int .u64 S1] 144)) (.int .u64 0) (.int .u64 0) 135
  rw [show (W.alloc (.cells #[.bool n1,.int .i64 K1,.int .i64 X1,.int .u64 S1] 144)).heap.size = W.heap.size + 1 by simp] at this
  exact this
 refine cg1 HO fun w1 hbl => ?_
 have HB:=bt HB hbl
 have HA:=ab ((aa HA).below hbl)
 have HR:=ab ((aa HR).below hbl)
 clear hbl
 obtain ⟨⟨v0,c0⟩,r0⟩:=(aa HR) 0 (by omega)
 obtain ⟨⟨v1,c1⟩,r1⟩:=(aa HR) 1 (by omega)
 go_wp2_with fail
 clear c0 c1 r0 r1 v0 v1
 have HB:=ab (eS (aa HB) (show W.heap.size ≤ W.heap.size + 1 by omega) (.int .u64 h) (.int .u64 l))
 have HA:=ab ((aa HA).set2 (show W.heap.size ≠ W.heap.size + 1 by omega) (.int .u64 h) (.int .u64 l))
 have H2:=ab (dK (aa HR) (.int .u64 h) (.int .u64 l))
 have HR:=ab ((aa HR).set2 (.int .u64 h) (.int .u64 l))
 refine cg1 HL fun w2 hbl => ?_
 have HB:=bt HB hbl
 have HA:=ab ((aa HA).below hbl)
 have H2:=ab ((aa H2).below hbl)
 have HR:=ab ((aa HR).below hbl)
 clear hbl
 go_wp2_with fail
 have HB:=ab ((aa HB).drew)
 have HA:=ab ((aa HA).below ((Below.refl _ _).drew))
 have H2:=ab ((aa H2).below ((Below.refl _ _).drew))
 have HR:=ab ((aa HR).below ((Below.refl _ _).drew))
 obtain ⟨c0,c1,c2,c3⟩:=aa HA
 obtain ⟨d0,d1⟩:=aa H2
 go_region_with (first
  | (go_at_call 234; refine (aa HS _).mono ?_; rintro e w8 ⟨rfl,hbl⟩; have HB8:=bt HB hbl; have HR8:=ab ((aa HR).below hbl); obtain ⟨e0,e1,e2,e3⟩:=(aa HA).below hbl; obtain ⟨⟨v0,f0⟩,r0⟩:=(aa HR8) 0 (by omega); obtain ⟨⟨v1,f1⟩,r1⟩:=(aa HR8) 1 (by omega); clear hbl))
 all_goals
  go_wp2_with fail
  exact bodyPost_ret (v:=.tuple #[.agg #[.int .u64 h',.int .u64 l'],.int .i64 E]) (by simp (maxDischargeDepth:=8) [results,Tryz.results243,go_sem,f0,f1]) rfl ⟨rfl,eS (aa HB8) (show W.heap.size ≤ W.heap.size + 1 by omega) _ _⟩
theorem amr {K2 X2 S2 h l h' l' t e : Int} {n2 : Bool} (W : World) (HD : Ct 270 #[.agg #[.int .u64 h,.int .u64 l],.int .u64 S2] (.tuple #[.agg #[.int .u64 h',.int .u64 l'],.int .u64 t,.int .i64 e])) :
 Calls Tryz.prog 244 #[.agg #[.bool n2,.int .i64 K2,.int .i64 X2,.int .u64 S2],.agg #[.int .u64 h,.int .u64 l]] W fun r' W' => r' = .returned (.tuple #[.agg #[.int .u64 h',.int .u64 l'],.bool (t != 0)]) ∧ Below W.heap.size W W':=by
 go_enter Tryz.func244,Tryz.ntmps244
 go_wp2_with fail
 have HB : Hid (Below W.heap.size W (((W.alloc (.cells #[.bool n2,.int .i64 K2,.int .i64 X2,.int .u64 S2] 145)).alloc (.cells #[.int .u64 h,.int .u64 l] 135)).alloc (.cells #[.int .u64 0,.int .u64 0] 135))):=ad (aq W (.cells #[.bool n2,.int .i64 K2,.int .i64 X2,.int .u64 S2] 145) (.cells #[.int .u64 h,.int .u64 l] 135)) _
 have HR : Hid (aS (W.heap.size + 1 + 1) 2 (((W.alloc (.cells #[.bool n2,.int .i64 K2,.int .i64 X2,.int .u64 S2] 145)).alloc (.cells #[.int .u64 h,.int .u64 l] 135)).alloc (.cells #[.int .u64 0,.int .u64 0] 135))):=by
  have:=jr ((W.alloc (.cells #[.bool n2,.int .i64 K2,.int .i64 X2,.int .u64 S2] 145)).alloc (.cells #[.int .u64 h,.int .u64 l] 135)) (.int .u64 0) (.int .u64 0) 135
  rw [show ((W.alloc (.cells #[.bool n2,.int .i64 K2,.int .i64 X2,.int .u64 S2] 145)).alloc (.cells #[.int .u64 h,.int .u64 l] 135)).heap.size = W.heap.size + 1 + 1 by simp] at this
  exact this
 refine cg1 HD fun w1 hbl => ?_
 have HB:=bt HB hbl
 have HR:=ab ((aa HR).below hbl)
 clear hbl
 obtain ⟨⟨v0,c0⟩,r0⟩:=(aa HR) 0 (by omega)
 obtain ⟨⟨v1,c1⟩,r1⟩:=(aa HR) 1 (by omega)
 go_wp2_with fail
 exact bodyPost_ret (v:=.tuple #[.agg #[.int .u64 h',.int .u64 l'],.bool (t != 0)]) (by simp (maxDischargeDepth:=8) [results,Tryz.results244,go_sem,c0,c1]) rfl ⟨rfl,eS (eS (aa HB) (show W.heap.size ≤ W.heap.size + 1 + 1 by omega) _ _) (show W.heap.size ≤ W.heap.size + 1 + 1 by omega) _ _⟩
theorem jd {w K1 X1 S1 K2 X2 S2 V : Int} {n1 n2 : Bool} (W : World) (HN : Ct 241 #[.agg #[.bool n1,.int .i64 K1,.int .i64 X1,.int .u64 S1,.bool n2,.int .i64 K2,.int .i64 X2,.int .u64 S2,.int .i64 w]] (.bool true)) (HC : Ct 156 #[.int .i64 w] (.int .u64 V)) :
 Calls Tryz.prog 164 #[.agg #[.bool n1,.int .i64 K1,.int .i64 X1,.int .u64 S1,.bool n2,.int .i64 K2,.int .i64 X2,.int .u64 S2,.int .i64 w]] W fun r W' => r = .returned (.int .u64 V) ∧ Below W.heap.size W W':=by
 go_enter Tryz.func164,Tryz.ntmps164
 go_wp2_with fail
 have HB:=ab (ae W (.cells #[.bool n1,.int .i64 K1,.int .i64 X1,.int .u64 S1,.bool n2,.int .i64 K2,.int .i64 X2,.int .u64 S2,.int .i64 w] 147))
 have HA:=ab (cF W (.bool n1) (.int .i64 K1) (.int .i64 X1) (.int .u64 S1) (.bool n2) (.int .i64 K2) (.int .i64 X2) (.int .u64 S2) (.int .i64 w) 147)
 refine cg1 HN fun w1 hbl => ?_
 have HB:=bt HB hbl
 have HA:=ab ((aa HA).below hbl)
 clear hbl
 obtain ⟨c0,c1,c2,c3,c4,c5,c6,c7,c8⟩:=aa HA
 go_wp2_with fail
 clear c0 c1 c2 c3 c4 c5 c6 c7 c8
 refine cg1 HC fun w2 hbl => ?_
 have HB:=bt HB hbl
 have HA:=ab ((aa HA).below hbl)
 clear hbl
 go_wp2_with fail
 go_ret
 exact ⟨rfl,aa HB⟩
theorem pY {w K1 X1 S1 K2 X2 S2 V : Int} {n1 n2 : Bool} (W : World) (HN : Ct 241 #[.agg #[.bool n1,.int .i64 K1,.int .i64 X1,.int .u64 S1,.bool n2,.int .i64 K2,.int .i64 X2,.int .u64 S2,.int .i64 w]] (.bool false)) (HG : Ct 242 #[.agg #[.bool n1,.int .i64 K1,.int .i64 X1,.int .u64 S1,.bool n2,.int .i64 K2,.int .i64 X2,.int .u64 S2,.int .i64 w]] (.bool (n1 != n2))) (a2 : (K1 == 2) = true) (HC : Ct 157 #[.int .i64 w,.bool (n1 != n2)] (.int .u64 V)) :
 Calls Tryz.prog 164 #[.agg #[.bool n1,.int .i64 K1,.int .i64 X1,.int .u64 S1,.bool n2,.int .i64 K2,.int .i64 X2,.int .u64 S2,.int .i64 w]] W fun r W' => r = .returned (.int .u64 V) ∧ Below W.heap.size W W':=by
 go_enter Tryz.func164,Tryz.ntmps164
 go_wp2_with fail
 have HB:=ab (ae W (.cells #[.bool n1,.int .i64 K1,.int .i64 X1,.int .u64 S1,.bool n2,.int .i64 K2,.int .i64 X2,.int .u64 S2,.int .i64 w] 147))
 have HA:=ab (cF W (.bool n1) (.int .i64 K1) (.int .i64 X1) (.int .u64 S1) (.bool n2) (.int .i64 K2) (.int .i64 X2) (.int .u64 S2) (.int .i64 w) 147)
 refine cg1 HN fun w1 hbl => ?_
 have HB:=bt HB hbl
 have HA:=ab ((aa HA).below hbl)
 clear hbl
 obtain ⟨c0,c1,c2,c3,c4,c5,c6,c7,c8⟩:=aa HA
 go_wp2_with fail
 clear c0 c1 c2 c3 c4 c5 c6 c7 c8
 have HB:=ab ((aa HB).drew)
 have HA:=ab ((aa HA).below ((Below.refl _ _).drew))
 refine wp_region_held_drew (S:=fun w' => (w'.cell? ⟨W.heap.size,0,none⟩ = some (.bool n1) ∧ w'.cell? ⟨W.heap.size,1,none⟩ = some (.int .i64 K1) ∧ w'.cell? ⟨W.heap.size,2,none⟩ = some (.int .i64 X1) ∧ w'.cell? ⟨W.heap.size,3,none⟩ = some (.int .u64 S1) ∧ w'.cell? ⟨W.heap.size,4,none⟩ = some (.bool n2) ∧ w'.cell? ⟨W.heap.size,5,none⟩ = some (.int .i64 K2) ∧ w'.cell? ⟨W.heap.size,6,none⟩ = some (.int .i64 X2) ∧ w'.cell? ⟨W.heap.size,7,none⟩ = some (.int .u64 S2) ∧ w'.cell? ⟨W.heap.size,8,none⟩ = some (.int .i64 w))) (by kernel_rfl) ?_ (fun hHeld => ?_)
 ·(try dsimp only)
  exact aa HA
 refine aC 6 (by kernel_rfl) ?_
 refine tkA 0 26 1 ?_
 refine tkA 1 27 3 ?_
 refine tkA 2 28 7 ?_
 refine rdA 3 15 (fun Kk hKk => ?_)
 go_simp
 refine cg1 HG fun w2 hbl => ?_
 have HB:=bt HB hbl
 have HA:=ab ((aa HA).below hbl)
 clear hbl
 (try go_wp2_with fail)
 refine oA hKk (aa HA) fun hHeld => ?_
 clear hKk Kk
 refine rdA 4 31 (fun Kk hKk => ?_)
 go_simp
 refine cg1 HC fun w3 hbl => ?_
 have HB:=bt HB hbl
 have HA:=ab ((aa HA).below hbl)
 clear hbl
 (try go_wp2_with fail)
 refine oA hKk (aa HA) fun hHeld => ?_
 clear hKk Kk
 refine tkA 5 2 63 ?_
 refine wpAnyH_done (by kernel_rfl) ?_ _
 go_wp2
 go_ret
 exact ⟨rfl,aa HB⟩
theorem pZ {w K1 X1 S1 K2 X2 S2 V : Int} {n1 n2 : Bool} (W : World) (HN : Ct 241 #[.agg #[.bool n1,.int .i64 K1,.int .i64 X1,.int .u64 S1,.bool n2,.int .i64 K2,.int .i64 X2,.int .u64 S2,.int .i64 w]] (.bool false)) (HG : Ct 242 #[.agg #[.bool n1,.int .i64 K1,.int .i64 X1,.int .u64 S1,.bool n2,.int .i64 K2,.int .i64 X2,.int .u64 S2,.int .i64 w]] (.bool (n1 != n2))) (a2 : (K1 == 2) = false) (b0 : (K2 == 0) = true) (HC : Ct 157 #[.int .i64 w,.bool (n1 != n2)] (.int .u64 V)) :
 Calls Tryz.prog 164 #[.agg #[.bool n1,.int .i64 K1,.int .i64 X1,.int .u64 S1,.bool n2,.int .i64 K2,.int .i64 X2,.int .u64 S2,.int .i64 w]] W fun r W' => r = .returned (.int .u64 V) ∧ Below W.heap.size W W':=by
 go_enter Tryz.func164,Tryz.ntmps164
 go_wp2_with fail
 have HB:=ab (ae W (.cells #[.bool n1,.int .i64 K1,.int .i64 X1,.int .u64 S1,.bool n2,.int .i64 K2,.int .i64 X2,.int .u64 S2,.int .i64 w] 147))
 have HA:=ab (cF W (.bool n1) (.int .i64 K1) (.int .i64 X1) (.int .u64 S1) (.bool n2) (.int .i64 K2) (.int .i64 X2) (.int .u64 S2) (.int .i64 w) 147)
 refine cg1 HN fun w1 hbl => ?_
 have HB:=bt HB hbl
 have HA:=ab ((aa HA).below hbl)
 clear hbl
 obtain ⟨c0,c1,c2,c3,c4,c5,c6,c7,c8⟩:=aa HA
 go_wp2_with fail
 clear c0 c1 c2 c3 c4 c5 c6 c7 c8
 have HB:=ab ((aa HB).drew)
 have HA:=ab ((aa HA).below ((Below.refl _ _).drew))
 refine wp_region_held_drew (S:=fun w' => (w'.cell? ⟨W.heap.size,0,none⟩ = some (.bool n1) ∧ w'.cell? ⟨W.heap.size,1,none⟩ = some (.int .i64 K1) ∧ w'.cell? ⟨W.heap.size,2,none⟩ = some (.int .i64 X1) ∧ w'.cell? ⟨W.heap.size,3,none⟩ = some (.int .u64 S1) ∧ w'.cell? ⟨W.heap.size,4,none⟩ = some (.bool n2) ∧ w'.cell? ⟨W.heap.size,5,none⟩ = some (.int .i64 K2) ∧ w'.cell? ⟨W.heap.size,6,none⟩ = some (.int .i64 X2) ∧ w'.cell? ⟨W.heap.size,7,none⟩ = some (.int .u64 S2) ∧ w'.cell? ⟨W.heap.size,8,none⟩ = some (.int .i64 w))) (by kernel_rfl) ?_ (fun hHeld => ?_)
 ·(try dsimp only)
  exact aa HA
 refine aC 6 (by kernel_rfl) ?_
 refine tkA 0 26 1 ?_
 refine tkA 1 27 3 ?_
 refine tkA 2 28 7 ?_
 refine rdA 3 15 (fun Kk hKk => ?_)
 go_simp
 refine cg1 HG fun w2 hbl => ?_
 have HB:=bt HB hbl
 have HA:=ab ((aa HA).below hbl)
 clear hbl
 (try go_wp2_with fail)
 refine oA hKk (aa HA) fun hHeld => ?_
 clear hKk Kk
 refine rdA 4 31 (fun Kk hKk => ?_)
 go_simp
 refine cg1 HC fun w3 hbl => ?_
 have HB:=bt HB hbl
 have HA:=ab ((aa HA).below hbl)
 clear hbl
 (try go_wp2_with fail)
 refine oA hKk (aa HA) fun hHeld => ?_
 clear hKk Kk
 refine tkA 5 2 63 ?_
 refine wpAnyH_done (by kernel_rfl) ?_ _
 go_wp2
 go_ret
 exact ⟨rfl,aa HB⟩
theorem p8 {w K1 X1 S1 K2 X2 S2 V : Int} {n1 n2 : Bool} (W : World) (HN : Ct 241 #[.agg #[.bool n1,.int .i64 K1,.int .i64 X1,.int .u64 S1,.bool n2,.int .i64 K2,.int .i64 X2,.int .u64 S2,.int .i64 w]] (.bool false)) (HG : Ct 242 #[.agg #[.bool n1,.int .i64 K1,.int .i64 X1,.int .u64 S1,.bool n2,.int .i64 K2,.int .i64 X2,.int .u64 S2,.int .i64 w]] (.bool (n1 != n2))) (a2 : (K1 == 2) = false) (b0 : (K2 == 0) = false) (a0 : (K1 == 0) = true) (HC : Ct 155 #[.int .i64 w,.bool (n1 != n2)] (.int .u64 V)) :
 Calls Tryz.prog 164 #[.agg #[.bool n1,.int .i64 K1,.int .i64 X1,.int .u64 S1,.bool n2,.int .i64 K2,.int .i64 X2,.int .u64 S2,.int .i64 w]] W fun r W' => r = .returned (.int .u64 V) ∧ Below W.heap.size W W':=by
 go_enter Tryz.func164,Tryz.ntmps164
 go_wp2_with fail
 have HB:=ab (ae W (.cells #[.bool n1,.int .i64 K1,.int .i64 X1,.int .u64 S1,.bool n2,.int .i64 K2,.int .i64 X2,.int .u64 S2,.int .i64 w] 147))
 have HA:=ab (cF W (.bool n1) (.int .i64 K1) (.int .i64 X1) (.int .u64 S1) (.bool n2) (.int .i64 K2) (.int .i64 X2) (.int .u64 S2) (.int .i64 w) 147)
 refine cg1 HN fun w1 hbl => ?_
 have HB:=bt HB hbl
 have HA:=ab ((aa HA).below hbl)
 clear hbl
 obtain ⟨c0,c1,c2,c3,c4,c5,c6,c7,c8⟩:=aa HA
 go_wp2_with fail
 clear c0 c1 c2 c3 c4 c5 c6 c7 c8
 have HB:=ab ((aa HB).drew)
 have HA:=ab ((aa HA).below ((Below.refl _ _).drew))
 refine wp_region_held_drew (S:=fun w' => (w'.cell? ⟨W.heap.size,0,none⟩ = some (.bool n1) ∧ w'.cell? ⟨W.heap.size,1,none⟩ = some (.int .i64 K1) ∧ w'.cell? ⟨W.heap.size,2,none⟩ = some (.int .i64 X1) ∧ w'.cell? ⟨W.heap.size,3,none⟩ = some (.int .u64 S1) ∧ w'.cell? ⟨W.heap.size,4,none⟩ = some (.bool n2) ∧ w'.cell? ⟨W.heap.size,5,none⟩ = some (.int .i64 K2) ∧ w'.cell? ⟨W.heap.size,6,none⟩ = some (.int .i64 X2) ∧ w'.cell? ⟨W.heap.size,7,none⟩ = some (.int .u64 S2) ∧ w'.cell? ⟨W.heap.size,8,none⟩ = some (.int .i64 w))) (by kernel_rfl) ?_ (fun hHeld => ?_)
 ·(try dsimp only)
  exact aa HA
 refine aC 6 (by kernel_rfl) ?_
 refine tkA 0 44 1 ?_
 refine tkA 1 45 3 ?_
 refine tkA 2 46 7 ?_
 refine rdA 3 15 (fun Kk hKk => ?_)
 go_simp
 refine cg1 HG fun w2 hbl => ?_
 have HB:=bt HB hbl
 have HA:=ab ((aa HA).below hbl)
 clear hbl
 (try go_wp2_with fail)
 refine oA hKk (aa HA) fun hHeld => ?_
 clear hKk Kk
 refine rdA 4 31 (fun Kk hKk => ?_)
 go_simp
 refine cg1 HC fun w3 hbl => ?_
 have HB:=bt HB hbl
 have HA:=ab ((aa HA).below hbl)
 clear hbl
 (try go_wp2_with fail)
 refine oA hKk (aa HA) fun hHeld => ?_
 clear hKk Kk
 refine tkA 5 2 63 ?_
 refine wpAnyH_done (by kernel_rfl) ?_ _
 go_wp2
 go_ret
 exact ⟨rfl,aa HB⟩
theorem p9 {w K1 X1 S1 K2 X2 S2 V : Int} {n1 n2 : Bool} (W : World) (HN : Ct 241 #[.agg #[.bool n1,.int .i64 K1,.int .i64 X1,.int .u64 S1,.bool n2,.int .i64 K2,.int .i64 X2,.int .u64 S2,.int .i64 w]] (.bool false)) (HG : Ct 242 #[.agg #[.bool n1,.int .i64 K1,.int .i64 X1,.int .u64 S1,.bool n2,.int .i64 K2,.int .i64 X2,.int .u64 S2,.int .i64 w]] (.bool (n1 != n2))) (a2 : (K1 == 2) = false) (b0 : (K2 == 0) = false) (a0 : (K1 == 0) = false) (b2 : (K2 == 2) = true) (HC : Ct 155 #[.int .i64 w,.bool (n1 != n2)] (.int .u64 V)) :
 Calls Tryz.prog 164 #[.agg #[.bool n1,.int .i64 K1,.int .i64 X1,.int .u64 S1,.bool n2,.int .i64 K2,.int .i64 X2,.int .u64 S2,.int .i64 w]] W fun r W' => r = .returned (.int .u64 V) ∧ Below W.heap.size W W':=by
 go_enter Tryz.func164,Tryz.ntmps164
 go_wp2_with fail
 have HB:=ab (ae W (.cells #[.bool n1,.int .i64 K1,.int .i64 X1,.int .u64 S1,.bool n2,.int .i64 K2,.int .i64 X2,.int .u64 S2,.int .i64 w] 147))
 have HA:=ab (cF W (.bool n1) (.int .i64 K1) (.int .i64 X1) (.int .u64 S1) (.bool n2) (.int .i64 K2) (.int .i64 X2) (.int .u64 S2) (.int .i64 w) 147)
 refine cg1 HN fun w1 hbl => ?_
 have HB:=bt HB hbl
 have HA:=ab ((aa HA).below hbl)
 clear hbl
 obtain ⟨c0,c1,c2,c3,c4,c5,c6,c7,c8⟩:=aa HA
 go_wp2_with fail
 clear c0 c1 c2 c3 c4 c5 c6 c7 c8
 have HB:=ab ((aa HB).drew)
 have HA:=ab ((aa HA).below ((Below.refl _ _).drew))
 refine wp_region_held_drew (S:=fun w' => (w'.cell? ⟨W.heap.size,0,none⟩ = some (.bool n1) ∧ w'.cell? ⟨W.heap.size,1,none⟩ = some (.int .i64 K1) ∧ w'.cell? ⟨W.heap.size,2,none⟩ = some (.int .i64 X1) ∧ w'.cell? ⟨W.heap.size,3,none⟩ = some (.int .u64 S1) ∧ w'.cell? ⟨W.heap.size,4,none⟩ = some (.bool n2) ∧ w'.cell? ⟨W.heap.size,5,none⟩ = some (.int .i64 K2) ∧ w'.cell? ⟨W.heap.size,6,none⟩ = some (.int .i64 X2) ∧ w'.cell? ⟨W.heap.size,7,none⟩ = some (.int .u64 S2) ∧ w'.cell? ⟨W.heap.size,8,none⟩ = some (.int .i64 w))) (by kernel_rfl) ?_ (fun hHeld => ?_)
 ·(try dsimp only)
  exact aa HA
 refine aC 6 (by kernel_rfl) ?_
 refine tkA 0 44 1 ?_
 refine tkA 1 45 3 ?_
 refine tkA 2 46 7 ?_
 refine rdA 3 15 (fun Kk hKk => ?_)
 go_simp
 refine cg1 HG fun w2 hbl => ?_
 have HB:=bt HB hbl
 have HA:=ab ((aa HA).below hbl)
 clear hbl
 (try go_wp2_with fail)
 refine oA hKk (aa HA) fun hHeld => ?_
 clear hKk Kk
 refine rdA 4 31 (fun Kk hKk => ?_)
 go_simp
 refine cg1 HC fun w3 hbl => ?_
 have HB:=bt HB hbl
 have HA:=ab ((aa HA).below hbl)
 clear hbl
 (try go_wp2_with fail)
 refine oA hKk (aa HA) fun hHeld => ?_
 clear hKk Kk
 refine tkA 5 2 63 ?_
 refine wpAnyH_done (by kernel_rfl) ?_ _
 go_wp2
 go_ret
 exact ⟨rfl,aa HB⟩
theorem nU {w K1 X1 S1 K2 X2 S2 E Y h l h' l' V : Int} {n1 n2 m : Bool} (W : World) (HN : Ct 241 #[.agg #[.bool n1,.int .i64 K1,.int .i64 X1,.int .u64 S1,.bool n2,.int .i64 K2,.int .i64 X2,.int .u64 S2,.int .i64 w]] (.bool false)) (HG : Ct 242 #[.agg #[.bool n1,.int .i64 K1,.int .i64 X1,.int .u64 S1,.bool n2,.int .i64 K2,.int .i64 X2,.int .u64 S2,.int .i64 w]] (.bool (n1 != n2))) (a2 : (K1 == 2) = false) (b0 : (K2 == 0) = false) (a0 : (K1 == 0) = false) (b2 : (K2 == 2) = false) (HR : Ct 243 #[.agg #[.bool n1,.int .i64 K1,.int .i64 X1,.int .u64 S1]] (.tuple #[.agg #[.int .u64 h,.int .u64 l],.int .i64 E])) (HI : Ct 244 #[.agg #[.bool n2,.int .i64 K2,.int .i64 X2,.int .u64 S2],.agg #[.int .u64 h,.int .u64 l]] (.tuple #[.agg #[.int .u64 h',.int .u64 l'],.bool m])) (kx : IntKind.i64.wrap (E - X2) = Y) (HC : Ct 160 #[.int .i64 w,.bool (n1 != n2),.agg #[.int .u64 h',.int .u64 l'],.int .i64 Y,.bool m] (.int .u64 V)) :
 Calls Tryz.prog 164 #[.agg #[.bool n1,.int .i64 K1,.int .i64 X1,.int .u64 S1,.bool n2,.int .i64 K2,.int .i64 X2,.int .u64 S2,.int .i64 w]] W fun r W' => r = .returned (.int .u64 V) ∧ Below W.heap.size W W':=by
 go_enter Tryz.func164,Tryz.ntmps164
 go_wp2_with fail
 have HB:=ab (ae W (.cells #[.bool n1,.int .i64 K1,.int .i64 X1,.int .u64 S1,.bool n2,.int .i64 K2,.int .i64 X2,.int .u64 S2,.int .i64 w] 147))
 have HA:=ab (cF W (.bool n1) (.int .i64 K1) (.int .i64 X1) (.int .u64 S1) (.bool n2) (.int .i64 K2) (.int .i64 X2) (.int .u64 S2) (.int .i64 w) 147)
 refine cg1 HN fun w1 hbl => ?_
 have HB:=bt HB hbl
 have HA:=ab ((aa HA).below hbl)
 clear hbl
 obtain ⟨c0,c1,c2,c3,c4,c5,c6,c7,c8⟩:=aa HA
 go_wp2_with fail
 clear c0 c1 c2 c3 c4 c5 c6 c7 c8
 refine cg1 HR fun w2 hbl => ?_
 have HB:=bt HB hbl
 have HA:=ab ((aa HA).below hbl)
 clear hbl
 have HB:=ab (ad (aa HB) (.cells #[.int .u64 h,.int .u64 l] 135))
 have HA:=ab ((aa HA).below (ae _ (.cells #[.int .u64 h,.int .u64 l] 135)))
 obtain ⟨c0,c1,c2,c3,c4,c5,c6,c7,c8⟩:=aa HA
 go_wp2_with fail
 clear c0 c1 c2 c3 c4 c5 c6 c7 c8
 refine cg1 HI fun w3 hbl => ?_
 have HB:=bt HB hbl
 have HA:=ab ((aa HA).below hbl)
 clear hbl
 have HB:=ab (ad (aa HB) (.cells #[.int .u64 h',.int .u64 l'] 135))
 have HA:=ab ((aa HA).below (ae _ (.cells #[.int .u64 h',.int .u64 l'] 135)))
 have H2:=ab (nj w3 (.int .u64 h') (.int .u64 l') 135)
 go_wp2_with fail
 have HB:=ab ((aa HB).drew)
 have HA:=ab ((aa HA).below ((Below.refl _ _).drew))
 have H2:=ab ((aa H2).below ((Below.refl _ _).drew))
 refine wp_region_held_drew (S:=fun w' => (w'.cell? ⟨W.heap.size,0,none⟩ = some (.bool n1) ∧ w'.cell? ⟨W.heap.size,1,none⟩ = some (.int .i64 K1) ∧ w'.cell? ⟨W.heap.size,2,none⟩ = some (.int .i64 X1) ∧ w'.cell? ⟨W.heap.size,3,none⟩ = some (.int .u64 S1) ∧ w'.cell? ⟨W.heap.size,4,none⟩ = some (.bool n2) ∧ w'.cell? ⟨W.heap.size,5,none⟩ = some (.int .i64 K2) ∧ w'.cell? ⟨W.heap.size,6,none⟩ = some (.int .i64 X2) ∧ w'.cell? ⟨W.heap.size,7,none⟩ = some (.int .u64 S2) ∧ w'.cell? ⟨W.heap.size,8,none⟩ = some (.int .i64 w)) ∧ (w'.cell? ⟨w3.heap.size,0,none⟩ = some (.int .u64 h') ∧ w'.cell? ⟨w3.heap.size,1,none⟩ = some (.int .u64 l'))) (by kernel_rfl) ?_ (fun hHeld => ?_)
 ·(try dsimp only)
  exact ⟨aa HA,aa H2⟩
 refine aC 14 (by kernel_rfl) ?_
 refine tkA 0 62 1 ?_
 refine tkA 1 63 3 ?_
 refine tkA 2 64 7 ?_
 refine tkA 4 66 23 ?_
 refine tkA 5 67 55 ?_
 refine tkA 6 68 119 ?_
 refine tkA 7 69 247 ?_
 refine tkA 8 70 503 ?_
 refine tkA 9 71 1015 ?_
 refine tkA 10 72 2039 ?_
 refine tkA 11 73 4087 ?_
 refine rdA 3 4095 (fun Kk hKk => ?_)
 go_simp
 refine cg1 HG fun w4 hbl => ?_
 have HB:=bt HB hbl
 have HA:=ab ((aa HA).below hbl)
 have H2:=ab ((aa H2).below hbl)
 clear hbl
 (try go_wp2_with fail)
 refine oA hKk (⟨aa HA,aa H2⟩) fun hHeld => ?_
 clear hKk Kk
 refine rdA 12 8191 (fun Kk hKk => ?_)
 go_simp
 refine cg1 HC fun w5 hbl => ?_
 have HB:=bt HB hbl
 have HA:=ab ((aa HA).below hbl)
 have H2:=ab ((aa H2).below hbl)
 clear hbl
 (try go_wp2_with fail)
 refine oA hKk (⟨aa HA,aa H2⟩) fun hHeld => ?_
 clear hKk Kk
 refine tkA 13 2 16383 ?_
 refine wpAnyH_done (by kernel_rfl) ?_ _
 go_wp2
 go_ret
 exact ⟨rfl,aa HB⟩
theorem qa {w x y K1 X1 S1 K2 X2 S2 V : Int} {n1 n2 : Bool} (W : World) (HO1 : Ct 15 #[.int .i64 w,.int .u64 x] (.agg #[.bool n1,.int .i64 K1,.int .i64 X1,.int .u64 S1])) (HO2 : Ct 15 #[.int .i64 w,.int .u64 y] (.agg #[.bool n2,.int .i64 K2,.int .i64 X2,.int .u64 S2])) (HP : Ct 164 #[.agg #[.bool n1,.int .i64 K1,.int .i64 X1,.int .u64 S1,.bool n2,.int .i64 K2,.int .i64 X2,.int .u64 S2,.int .i64 w]] (.int .u64 V)) :
 Calls Tryz.prog 88 #[.int .i64 w,.int .u64 x,.int .u64 y] W fun r W' => r = .returned (.int .u64 V) ∧ Below W.heap.size W W':=by
 go_enter Tryz.func88,Tryz.ntmps88
 go_wp2_with fail
 refine cg1 HO1 fun w1 hb1 => ?_
 go_wp2_with fail
 refine cg1 HO2 fun w2 hb2 => ?_
 go_wp2_with fail
 refine cg1 HP fun w3 hb3 => ?_
 go_wp2_with fail
 go_ret
 exact ⟨rfl,ac (ad (ac hb1 hb2) (.cells #[.bool n1,.int .i64 K1,.int .i64 X1,.int .u64 S1,.bool n2,.int .i64 K2,.int .i64 X2,.int .u64 S2,.int .i64 w] 147)) hb3⟩
end Go.Proofs.YtpbgpdmffejdgaaGreatDoor
