/- MInE, MOrdR, MOrdP, MCmpW. -/
import Derived.Test.YtpbgpdmffejdgaaGreatDoorG19
import Derived.Test.YtpbgpdmffejdgaaGreatDoorG24
import Derived.Test.YtpbgpdmffejdgaaGreatDoorG27
import Derived.Test.YtpbgpdmffejdgaaGreatDoorG30
import Derived.Test.YtpbgpdmffejdgaaGreatDoorG31
import Derived.Test.YtpbgpdmffejdgaaGreatDoorG36
namespace Go.Proofs.YtpbgpdmffejdgaaGreatDoor
set_option maxHeartbeats 4000000
set_option maxRecDepth 100000
open Go.RowKit
theorem ajk {w e f : Int} (HF : Ct 23 #[.int .i64 w] (.tuple #[.int .i64 e,.int .i64 f])) : Ct 221 #[.int .i64 w] (.bool (e != 0)):=by
 refine ab (fun W => ?_)
 have HB:=rf W
 go_enter Tryz.func221,Tryz.ntmps221
 go_wp2_with fail
 refine cg0 HF HB fun w1 HB => ?_
 go_wp2_with fail
 go_ret
 exact ⟨rfl,aa HB⟩
theorem aps {w a c l d r : Int} (HK : Ct 221 #[.int .i64 w] (.bool true)) (HC : Ct 17 #[.int .i64 w,.int .u64 a] (.int .u64 c)) (HL : Ct 222 #[.int .u64 c] (.int .i64 l)) (hd : IntKind.i64.wrap (w - l) = d) (hr : IntKind.u64.wrap d = r) : Ct 143 #[.int .i64 w,.int .u64 a] (.int .u64 r):=by
 refine ab (fun W => ?_)
 have HB:=rf W
 go_enter Tryz.func143,Tryz.ntmps143
 go_wp2_with fail
 refine cg0 HK HB fun w1 HB => ?_
 go_wp2_with fail
 refine cg0 HC HB fun w2 HB => ?_
 go_wp2_with fail
 refine cg0 HL HB fun w3 HB => ?_
 go_wp2_with fail
 go_ret
 exact ⟨rfl,aa HB⟩
theorem ali {w a t r : Int} (HK : Ct 221 #[.int .i64 w] (.bool true)) (HT : Cm 223 #[.int .u64 a] (.int .i64 t)) (g : w ≤ t) (hr : IntKind.u64.wrap w = r) : Cm 144 #[.int .i64 w,.int .u64 a] (.int .u64 r):=by
 refine ab (fun W hM => ?_)
 have HM:=ab hM
 clear hM
 have HB:=rf W
 go_enter Tryz.func144,Tryz.ntmps144
 go_wp2_with fail
 refine cg1 HK fun w1 hb => ?_
 have HB:=bt HB hb
 have HM:=ab ((aa HM).below hb)
 clear hb
 go_wp2_with fail
 refine (aa HT _ (aa HM)).mono ?_
 rintro _ w2 ⟨rfl,hb⟩
 have HB:=bt HB hb
 clear hb
 go_wp2_with fail
 go_ret
 exact ⟨by first | rfl | simp,aa HB⟩
theorem alj {w a t r : Int} (HK : Ct 221 #[.int .i64 w] (.bool true)) (HT : Cm 223 #[.int .u64 a] (.int .i64 t)) (g : t < w) (hr : IntKind.u64.wrap t = r) : Cm 144 #[.int .i64 w,.int .u64 a] (.int .u64 r):=by
 refine ab (fun W hM => ?_)
 have HM:=ab hM
 clear hM
 have HB:=rf W
 go_enter Tryz.func144,Tryz.ntmps144
 go_wp2_with fail
 refine cg1 HK fun w1 hb => ?_
 have HB:=bt HB hb
 have HM:=ab ((aa HM).below hb)
 clear hb
 go_wp2_with fail
 refine (aa HT _ (aa HM)).mono ?_
 rintro _ w2 ⟨rfl,hb⟩
 have HB:=bt HB hb
 clear hb
 go_wp2_with fail
 go_ret
 exact ⟨by first | rfl | simp,aa HB⟩
theorem afz  : Ct 171 #[.int .i64 8] (.bool true):=by
 refine ab (fun W => ?_)
 have HB:=rf W
 go_enter Tryz.func171,Tryz.ntmps171
 go_wp2_with fail
 go_ret
 exact ⟨rfl,aa HB⟩
theorem zh  : Ct 171 #[.int .i64 16] (.bool true):=by
 refine ab (fun W => ?_)
 have HB:=rf W
 go_enter Tryz.func171,Tryz.ntmps171
 go_wp2_with fail
 go_ret
 exact ⟨rfl,aa HB⟩
theorem zi  : Ct 171 #[.int .i64 32] (.bool true):=by
 refine ab (fun W => ?_)
 have HB:=rf W
 go_enter Tryz.func171,Tryz.ntmps171
 go_wp2_with fail
 go_ret
 exact ⟨rfl,aa HB⟩
theorem zj  : Ct 171 #[.int .i64 64] (.bool true):=by
 refine ab (fun W => ?_)
 have HB:=rf W
 go_enter Tryz.func171,Tryz.ntmps171
 go_wp2_with fail
 go_ret
 exact ⟨rfl,aa HB⟩
theorem ajl {w f a d u h r v : Int} (HP : Ct 171 #[.int .i64 f] (.bool true)) (g : f ≤ w) (hd : IntKind.i64.wrap (64 - f) = d) (hu : IntKind.u64.wrap d = u) (HL : Ct 138 #[.int .i64 64,.int .u64 a,.int .u64 u] (.int .u64 h)) (HR : Ct 139 #[.int .i64 64,.int .u64 h,.int .u64 u] (.int .u64 r)) (HC : Ct 17 #[.int .i64 w,.int .u64 r] (.int .u64 v)) : Ct 97 #[.int .i64 w,.int .i64 f,.int .u64 a,.bool true] (.int .u64 v):=by
 refine ab (fun W => ?_)
 have HB:=rf W
 go_enter Tryz.func97,Tryz.ntmps97
 go_wp2_with fail
 refine cg0 HP HB fun w1 HB => ?_
 go_wp2_with fail
 refine cg0 HL HB fun w2 HB => ?_
 go_wp2_with fail
 refine cg0 HR HB fun w3 HB => ?_
 go_wp2_with fail
 refine cg0 HC HB fun w4 HB => ?_
 go_wp2_with fail
 go_ret
 exact ⟨rfl,aa HB⟩
theorem ajm {w f a d u h r v : Int} (HP : Ct 171 #[.int .i64 f] (.bool true)) (g : f ≤ w) (hd : IntKind.i64.wrap (64 - f) = d) (hu : IntKind.u64.wrap d = u) (HL : Ct 138 #[.int .i64 64,.int .u64 a,.int .u64 u] (.int .u64 h)) (HR : Ct 140 #[.int .i64 64,.int .u64 h,.int .u64 u] (.int .u64 r)) (HC : Ct 17 #[.int .i64 w,.int .u64 r] (.int .u64 v)) : Ct 97 #[.int .i64 w,.int .i64 f,.int .u64 a,.bool false] (.int .u64 v):=by
 refine ab (fun W => ?_)
 have HB:=rf W
 go_enter Tryz.func97,Tryz.ntmps97
 go_wp2_with fail
 refine cg0 HP HB fun w1 HB => ?_
 go_wp2_with fail
 refine cg0 HL HB fun w2 HB => ?_
 go_wp2_with fail
 refine cg0 HR HB fun w3 HB => ?_
 go_wp2_with fail
 refine cg0 HC HB fun w4 HB => ?_
 go_wp2_with fail
 go_ret
 exact ⟨rfl,aa HB⟩
set_option maxHeartbeats 2000000
open Go.Proofs.YtpbgpdmffejdgaaGreatDoor.W
theorem am9 {K X S : Int} {n : Bool} (W : World) (h : (K == 0) = true) :
 Calls Tryz.prog 200 #[.agg #[.bool n,.int .i64 K,.int .i64 X,.int .u64 S]] W fun r W' => r = .returned (.int .i64 0) ∧ Below W.heap.size W W':=by
 go_enter Tryz.func200,Tryz.ntmps200
 go_wp2
 go_ret
 exact ⟨rfl,ae _ _⟩
theorem ana {K X S : Int} (W : World) (h : (K == 0) = false) :
 Calls Tryz.prog 200 #[.agg #[.bool true,.int .i64 K,.int .i64 X,.int .u64 S]] W fun r W' => r = .returned (.int .i64 (-1)) ∧ Below W.heap.size W W':=by
 go_enter Tryz.func200,Tryz.ntmps200
 go_wp2
 go_ret
 exact ⟨rfl,ae _ _⟩
theorem anb {K X S : Int} (W : World) (h : (K == 0) = false) :
 Calls Tryz.prog 200 #[.agg #[.bool false,.int .i64 K,.int .i64 X,.int .u64 S]] W fun r W' => r = .returned (.int .i64 1) ∧ Below W.heap.size W W':=by
 go_enter Tryz.func200,Tryz.ntmps200
 go_wp2
 go_ret
 exact ⟨rfl,ae _ _⟩
theorem aib {w x y t a b c V : Int} {n : Bool} (W : World) (H1 : Ct 41 #[.int .i64 w,.int .u64 x] (.int .u64 a)) (H2 : Ct 41 #[.int .i64 w,.int .u64 y] (.int .u64 b)) (H3 : Ct 108 #[.int .i64 w,.int .u64 a,.int .u64 b] (.int .i64 c)) (e2 : (c == 2) = true) (HN : Ct 177 #[.int .i64 w] (.int .u64 V)) :
 Calls Tryz.prog 114 #[.int .i64 w,.int .u64 x,.int .u64 y,.int .i64 t,.bool n] W fun r W' => r = .returned (.int .u64 V) ∧ Below W.heap.size W W':=by
 go_enter Tryz.func114,Tryz.ntmps114
 go_wp2_with fail
 refine cg1 H1 fun w1 hb => ?_
 have HB:=ab hb
 clear hb
 go_wp2_with fail
 refine cg0 H2 HB fun w2 HB => ?_
 go_wp2_with fail
 refine cg0 H3 HB fun w3 HB => ?_
 go_wp2_with fail
 refine cg0 HN HB fun w4 HB => ?_
 go_wp2_with fail
 go_ret
 exact ⟨rfl,aa HB⟩
theorem aic {w x y t a b c : Int} {n : Bool} (W : World) (H1 : Ct 41 #[.int .i64 w,.int .u64 x] (.int .u64 a)) (H2 : Ct 41 #[.int .i64 w,.int .u64 y] (.int .u64 b)) (H3 : Ct 108 #[.int .i64 w,.int .u64 a,.int .u64 b] (.int .i64 c)) (e2 : (c == 2) = false) (e3 : (c == t) = true) :
 Calls Tryz.prog 114 #[.int .i64 w,.int .u64 x,.int .u64 y,.int .i64 t,.bool n] W fun r W' => r = .returned (.int .u64 a) ∧ Below W.heap.size W W':=by
 go_enter Tryz.func114,Tryz.ntmps114
 go_wp2_with fail
 refine cg1 H1 fun w1 hb => ?_
 have HB:=ab hb
 clear hb
 go_wp2_with fail
 refine cg0 H2 HB fun w2 HB => ?_
 go_wp2_with fail
 refine cg0 H3 HB fun w3 HB => ?_
 go_wp2_with fail
 go_ret
 exact ⟨rfl,aa HB⟩
theorem aid {w x y t a b c : Int} {n : Bool} (W : World) (H1 : Ct 41 #[.int .i64 w,.int .u64 x] (.int .u64 a)) (H2 : Ct 41 #[.int .i64 w,.int .u64 y] (.int .u64 b)) (H3 : Ct 108 #[.int .i64 w,.int .u64 a,.int .u64 b] (.int .i64 c)) (e2 : (c == 2) = false) (e3 : (c == t) = false) (e0 : (c == 0) = false) :
 Calls Tryz.prog 114 #[.int .i64 w,.int .u64 x,.int .u64 y,.int .i64 t,.bool n] W fun r W' => r = .returned (.int .u64 b) ∧ Below W.heap.size W W':=by
 go_enter Tryz.func114,Tryz.ntmps114
 go_wp2_with fail
 refine cg1 H1 fun w1 hb => ?_
 have HB:=ab hb
 clear hb
 go_wp2_with fail
 refine cg0 H2 HB fun w2 HB => ?_
 go_wp2_with fail
 refine cg0 H3 HB fun w3 HB => ?_
 go_wp2_with fail
 go_ret
 exact ⟨rfl,aa HB⟩
theorem aie {w x y t a b c : Int} {n g : Bool} (W : World) (H1 : Ct 41 #[.int .i64 w,.int .u64 x] (.int .u64 a)) (H2 : Ct 41 #[.int .i64 w,.int .u64 y] (.int .u64 b)) (H3 : Ct 108 #[.int .i64 w,.int .u64 a,.int .u64 b] (.int .i64 c)) (H4 : Ct 116 #[.int .i64 w,.int .u64 a] (.bool g)) (e2 : (c == 2) = false) (e3 : (c == t) = false) (e0 : (c == 0) = true) (e4 : (g == n) = true) :
 Calls Tryz.prog 114 #[.int .i64 w,.int .u64 x,.int .u64 y,.int .i64 t,.bool n] W fun r W' => r = .returned (.int .u64 a) ∧ Below W.heap.size W W':=by
 go_enter Tryz.func114,Tryz.ntmps114
 go_wp2_with fail
 refine cg1 H1 fun w1 hb => ?_
 have HB:=ab hb
 clear hb
 go_wp2_with fail
 refine cg0 H2 HB fun w2 HB => ?_
 go_wp2_with fail
 refine cg0 H3 HB fun w3 HB => ?_
 go_wp2_with fail
 refine cg0 H4 HB fun w4 HB => ?_
 go_wp2_with fail
 go_ret
 exact ⟨rfl,aa HB⟩
theorem aif {w x y t a b c : Int} {n g : Bool} (W : World) (H1 : Ct 41 #[.int .i64 w,.int .u64 x] (.int .u64 a)) (H2 : Ct 41 #[.int .i64 w,.int .u64 y] (.int .u64 b)) (H3 : Ct 108 #[.int .i64 w,.int .u64 a,.int .u64 b] (.int .i64 c)) (H4 : Ct 116 #[.int .i64 w,.int .u64 a] (.bool g)) (e2 : (c == 2) = false) (e3 : (c == t) = false) (e0 : (c == 0) = true) (e4 : (g == n) = false) :
 Calls Tryz.prog 114 #[.int .i64 w,.int .u64 x,.int .u64 y,.int .i64 t,.bool n] W fun r W' => r = .returned (.int .u64 b) ∧ Below W.heap.size W W':=by
 go_enter Tryz.func114,Tryz.ntmps114
 go_wp2_with fail
 refine cg1 H1 fun w1 hb => ?_
 have HB:=ab hb
 clear hb
 go_wp2_with fail
 refine cg0 H2 HB fun w2 HB => ?_
 go_wp2_with fail
 refine cg0 H3 HB fun w3 HB => ?_
 go_wp2_with fail
 refine cg0 H4 HB fun w4 HB => ?_
 go_wp2_with fail
 go_ret
 exact ⟨rfl,aa HB⟩
set_option maxHeartbeats 8000000
theorem mb {w x y K1 X1 S1 K2 X2 S2 s1 s2 V L r0 e0 : Int} {n1 n2 : Bool} {d1 d2 : Nat} (W : World) (HO1 : Ct 101 #[.int .i64 w,.int .u64 x] (.agg #[.bool n1,.int .i64 K1,.int .i64 X1,.int .u64 S1])) (HO2 : Ct 101 #[.int .i64 w,.int .u64 y] (.agg #[.bool n2,.int .i64 K2,.int .i64 X2,.int .u64 S2])) (HS1 : Ct 200 #[.agg #[.bool n1,.int .i64 K1,.int .i64 X1,.int .u64 S1]] (.int .i64 s1)) (HS2 : Ct 200 #[.agg #[.bool n2,.int .i64 K2,.int .i64 X2,.int .u64 S2]] (.int .i64 s2))
 (HQ : (K1 == 3) = true ∧ V = 2 ∨ (K1 == 3) = false ∧ ((K2 == 3) = true ∧ V = 2 ∨ (K2 == 3) = false ∧ (s1 < s2 ∧ V = -1 ∨ ¬ s1 < s2 ∧ (s2 < s1 ∧ V = 1 ∨ ¬ s2 < s1 ∧ ((s1 == 0) = true ∧ V = 0 ∨ (s1 == 0) = false ∧
  (((K1 == 2) = true ∨ (K1 == 2) = false ∧ (K2 == 2) = true) ∧ IntKind.i64.wrap (K1 - K2) = e0 ∧ IntKind.i64.wrap (-e0) = r0 ∧ V = (if n1 then r0 else e0) ∨
   (K1 == 2) = false ∧ (K2 == 2) = false ∧ (X1 ≤ X2 ∧ X1 = L ∨ ¬ X1 ≤ X2 ∧ X2 = L) ∧ Hid (0 ≤ S1 ∧ S1 < 18446744073709551616 ∧ S1.toNat < pw 2) ∧ Hid (0 ≤ S2 ∧ S2 < 18446744073709551616 ∧ S2.toNat < pw 2) ∧
    Hid ((∀ z,z = X1 - L → IntKind.i64.wrap z = (d1 : Int)) ∧ d1 ≤ 10000) ∧ Hid ((∀ z,z = X2 - L → IntKind.i64.wrap z = (d2 : Int)) ∧ d2 ≤ 10000) ∧ IntKind.i64.wrap (-aK (S1.toNat * 2 ^ d1) (S2.toNat * 2 ^ d2)) = r0 ∧ V = (if n1 then r0 else aK (S1.toNat * 2 ^ d1) (S2.toNat * 2 ^ d2)))))))) :
 Calls Tryz.prog 108 #[.int .i64 w,.int .u64 x,.int .u64 y] W fun r W' => r = .returned (.int .i64 V) ∧ Below W.heap.size W W':=by
 go_enter Tryz.func108,Tryz.ntmps108
 go_wp2_with fail
 refine cg1 HO1 fun w1 hb => ?_
 have HB:=ab (ad hb (.cells #[.bool n1,.int .i64 K1,.int .i64 X1,.int .u64 S1] 105))
 have HA:=ab (ak w1 (.bool n1) (.int .i64 K1) (.int .i64 X1) (.int .u64 S1) 105)
 clear hb
 go_wp2_with fail
 refine cg1 HO2 fun w2 hb => ?_
 have HB:=ab (ad (ac (aa HB) hb) (.cells #[.bool n2,.int .i64 K2,.int .i64 X2,.int .u64 S2] 105))
 have HA:=ab (((aa HA).below hb).below (ae w2 (.cells #[.bool n2,.int .i64 K2,.int .i64 X2,.int .u64 S2] 105)))
 have H1:=ab (ak w2 (.bool n2) (.int .i64 K2) (.int .i64 X2) (.int .u64 S2) 105)
 clear hb
 rcases HQ with ⟨a3,rfl⟩ | ⟨a3,⟨b3,rfl⟩ | ⟨b3,HQ⟩⟩
 ·obtain ⟨c0,c1,c2,c3⟩:=aa HA
  obtain ⟨d0,d1',d2',d3⟩:=aa H1
  go_wp2_with fail
  go_ret
  exact ⟨rfl,aa HB⟩
 ·obtain ⟨c0,c1,c2,c3⟩:=aa HA
  obtain ⟨d0,d1',d2',d3⟩:=aa H1
  go_wp2_with fail
  go_ret
  exact ⟨rfl,aa HB⟩
 ·obtain ⟨c0,c1,c2,c3⟩:=aa HA
  obtain ⟨d0,d1',d2',d3⟩:=aa H1
  go_wp2_with fail
  clear c0 c1 c2 c3 d0 d1' d2' d3
  have HB:=ab (aa HB).drew
  have HA:=ab ((aa HA).below ((Below.refl _ _).drew))
  have H1:=ab ((aa H1).below ((Below.refl _ _).drew))
  refine wp_region_held_drew (S:=fun w' => (w'.cell? ⟨w1.heap.size,0,none⟩ = some (.bool n1) ∧ w'.cell? ⟨w1.heap.size,1,none⟩ = some (.int .i64 K1) ∧ w'.cell? ⟨w1.heap.size,2,none⟩ = some (.int .i64 X1) ∧ w'.cell? ⟨w1.heap.size,3,none⟩ = some (.int .u64 S1)) ∧ (w'.cell? ⟨w2.heap.size,0,none⟩ = some (.bool n2) ∧ w'.cell? ⟨w2.heap.size,1,none⟩ = some (.int .i64 K2) ∧ w'.cell? ⟨w2.heap.size,2,none⟩ = some (.int .i64 X2) ∧ w'.cell? ⟨w2.heap.size,3,none⟩ = some (.int .u64 S2))) (by kernel_rfl) ?_ (fun hHeld => ?_)
  ·(try dsimp only)
   exact ⟨aa HA,aa H1⟩
  refine aC 5 (by kernel_rfl) ?_
  refine tkA 0 25 1 ?_
  refine tkA 2 27 5 ?_
  refine rdA 1 7 (fun Kk hKk => ?_)
  go_simp
  refine cg1 HS1 fun w3 hb => ?_
  have HB:=bt HB hb
  have HA:=ab ((aa HA).below hb)
  have H1:=ab ((aa H1).below hb)
  clear hb
  (try go_wp2_with fail)
  refine oA hKk (⟨aa HA,aa H1⟩) fun hHeld => ?_
  clear hKk Kk
  refine rdA 3 15 (fun Kk hKk => ?_)
  go_simp
  refine cg1 HS2 fun w4 hb => ?_
  have HB:=bt HB hb
  have HA:=ab ((aa HA).below hb)
  have H1:=ab ((aa H1).below hb)
  clear hb
  (try go_wp2_with fail)
  refine oA hKk (⟨aa HA,aa H1⟩) fun hHeld => ?_
  clear hKk Kk
  refine tkA 4 29 31 ?_
  refine wpAnyH_done (by kernel_rfl) ?_ _
  clear hHeld
  rcases HQ with ⟨h1,rfl⟩ | ⟨h1,HQ⟩
  ·obtain ⟨c0,c1,c2,c3⟩:=aa HA
   obtain ⟨d0,d1',d2',d3⟩:=aa H1
   go_wp2_with fail
   go_ret
   exact ⟨rfl,aa HB⟩
  ·obtain ⟨c0,c1,c2,c3⟩:=aa HA
   obtain ⟨d0,d1',d2',d3⟩:=aa H1
   go_wp2_with fail
   clear c0 c1 c2 c3 d0 d1' d2' d3
   have HB:=ab (aa HB).drew
   have HA:=ab ((aa HA).below ((Below.refl _ _).drew))
   have H1:=ab ((aa H1).below ((Below.refl _ _).drew))
   refine wp_region_held_drew (S:=fun w' => (w'.cell? ⟨w1.heap.size,0,none⟩ = some (.bool n1) ∧ w'.cell? ⟨w1.heap.size,1,none⟩ = some (.int .i64 K1) ∧ w'.cell? ⟨w1.heap.size,2,none⟩ = some (.int .i64 X1) ∧ w'.cell? ⟨w1.heap.size,3,none⟩ = some (.int .u64 S1)) ∧ (w'.cell? ⟨w2.heap.size,0,none⟩ = some (.bool n2) ∧ w'.cell? ⟨w2.heap.size,1,none⟩ = some (.int .i64 K2) ∧ w'.cell? ⟨w2.heap.size,2,none⟩ = some (.int .i64 X2) ∧ w'.cell? ⟨w2.heap.size,3,none⟩ = some (.int .u64 S2))) (by kernel_rfl) ?_ (fun hHeld => ?_)
   ·(try dsimp only)
    exact ⟨aa HA,aa H1⟩
   refine aC 5 (by kernel_rfl) ?_
   refine tkA 0 30 1 ?_
   refine tkA 2 32 5 ?_
   refine rdA 1 7 (fun Kk hKk => ?_)
   go_simp
   refine cg1 HS1 fun w5 hb => ?_
   have HB:=bt HB hb
   have HA:=ab ((aa HA).below hb)
   have H1:=ab ((aa H1).below hb)
   clear hb
   (try go_wp2_with fail)
   refine oA hKk (⟨aa HA,aa H1⟩) fun hHeld => ?_
   clear hKk Kk
   refine rdA 3 15 (fun Kk hKk => ?_)
   go_simp
   refine cg1 HS2 fun w6 hb => ?_
   have HB:=bt HB hb
   have HA:=ab ((aa HA).below hb)
   have H1:=ab ((aa H1).below hb)
   clear hb
   (try go_wp2_with fail)
   refine oA hKk (⟨aa HA,aa H1⟩) fun hHeld => ?_
   clear hKk Kk
   refine tkA 4 34 31 ?_
   refine wpAnyH_done (by kernel_rfl) ?_ _
   clear hHeld
   rcases HQ with ⟨h2,rfl⟩ | ⟨h2,HQ⟩
   ·obtain ⟨c0,c1,c2,c3⟩:=aa HA
    obtain ⟨d0,d1',d2',d3⟩:=aa H1
    go_wp2_with fail
    go_ret
    exact ⟨rfl,aa HB⟩
   ·obtain ⟨c0,c1,c2,c3⟩:=aa HA
    obtain ⟨d0,d1',d2',d3⟩:=aa H1
    go_wp2_with fail
    clear c0 c1 c2 c3 d0 d1' d2' d3
    refine cg1 HS1 fun w7 hb => ?_
    have HB:=bt HB hb
    have HA:=ab ((aa HA).below hb)
    have H1:=ab ((aa H1).below hb)
    clear hb
    rcases HQ with ⟨h3,rfl⟩ | ⟨h3,⟨hi,h4,h5,rfl⟩ | ⟨a2,b2,hL,L1,L2,D1,D2,h5,rfl⟩⟩
    ·obtain ⟨c0,c1,c2,c3⟩:=aa HA
     obtain ⟨d0,d1',d2',d3⟩:=aa H1
     go_wp2_with fail
     go_ret
     exact ⟨rfl,aa HB⟩
    ·rcases hi with a2 | ⟨a2,b2⟩
     all_goals
      have HZ:=HB
      cases n1
      all_goals
       obtain ⟨c0,c1,c2,c3⟩:=aa HA
       obtain ⟨d0,d1',d2',d3⟩:=aa H1
       go_wp2_with fail
       go_ret
       exact ⟨by first | rfl | simp,aa HZ⟩
    ·rcases hL with ⟨hm,rfl⟩ | ⟨hm,rfl⟩
     all_goals
      obtain ⟨c0,c1,c2,c3⟩:=aa HA
      obtain ⟨d0,d1',d2',d3⟩:=aa H1
      go_wp2_with fail
      clear c0 c1 c2 c3 d0 d1' d2' d3
      have HB:=ab (aa HB).drew
      have HA:=ab ((aa HA).below ((Below.refl _ _).drew))
      have H1:=ab ((aa H1).below ((Below.refl _ _).drew))
      refine wp_region_held_drew (S:=fun w' => (w'.cell? ⟨w1.heap.size,0,none⟩ = some (.bool n1) ∧ w'.cell? ⟨w1.heap.size,1,none⟩ = some (.int .i64 K1) ∧ w'.cell? ⟨w1.heap.size,2,none⟩ = some (.int .i64 X1) ∧ w'.cell? ⟨w1.heap.size,3,none⟩ = some (.int .u64 S1)) ∧ (w'.cell? ⟨w2.heap.size,0,none⟩ = some (.bool n2) ∧ w'.cell? ⟨w2.heap.size,1,none⟩ = some (.int .i64 K2) ∧ w'.cell? ⟨w2.heap.size,2,none⟩ = some (.int .i64 X2) ∧ w'.cell? ⟨w2.heap.size,3,none⟩ = some (.int .u64 S2))) (by kernel_rfl) ?_ (fun hHeld => ?_)
      ·(try dsimp only)
       exact ⟨aa HA,aa H1⟩
      refine aC 18 (by kernel_rfl) ?_
      refine tkA 0 56 1 ?_
      refine tkA 1 57 3 ?_
      refine tkA 3 59 11 ?_
      refine tkA 4 60 27 ?_
      refine tkA 5 61 59 ?_
      refine tkA 6 62 123 ?_
      refine tkA 8 64 379 ?_
      refine tkA 9 65 891 ?_
      refine tkA 11 67 2939 ?_
      refine tkA 12 68 7035 ?_
      refine tkA 13 69 15227 ?_
      refine tkA 14 70 31611 ?_
      refine rdA 2 31615 (fun Kk hKk => ?_)
      go_simp
      refine (aE S1 _ (aa L1).1 (aa L1).2.1).mono ?_
      rintro _ w11 ⟨s11,rfl,hN,hb⟩
      obtain ⟨a11,m11,e11,rfl⟩:=hN.slice
      have N11:=ab hN
      clear hN
      have HB:=bt HB hb
      have HA:=ab ((aa HA).below hb)
      have H1:=ab ((aa H1).below hb)
      clear hb
      (try go_wp2_with fail)
      refine oA hKk (⟨aa HA,aa H1⟩) fun hHeld => ?_
      clear hKk Kk
      refine rdA 7 31743 (fun Kk hKk => ?_)
      go_simp
      refine (uq _ _ _ _ _ d1 _ ((aa D1).1 _ (by omega)) (aa N11) (aa L1).2.2 (aa D1).2).mono ?_
      rintro _ w12 ⟨s12,rfl,hN,hb⟩
      obtain ⟨a12,m12,e12,rfl⟩:=hN.slice
      have N12:=ab hN
      clear hN
      have HB:=bt HB hb
      have HA:=ab ((aa HA).below hb)
      have H1:=ab ((aa H1).below hb)
      clear hb
      (try go_wp2_with fail)
      refine oA hKk (⟨aa HA,aa H1⟩) fun hHeld => ?_
      clear hKk Kk
      refine rdA 10 32767 (fun Kk hKk => ?_)
      go_simp
      refine (aE S2 _ (aa L2).1 (aa L2).2.1).mono ?_
      rintro _ w13 ⟨s13,rfl,hN,hb⟩
      obtain ⟨a13,m13,e13,rfl⟩:=hN.slice
      have N13:=ab hN
      clear hN
      have HB:=bt HB hb
      have HA:=ab ((aa HA).below hb)
      have H1:=ab ((aa H1).below hb)
      have N12:=ab ((aa N12).below hb)
      clear hb
      (try go_wp2_with fail)
      refine oA hKk (⟨aa HA,aa H1⟩) fun hHeld => ?_
      clear hKk Kk
      refine rdA 15 65535 (fun Kk hKk => ?_)
      go_simp
      refine (uq _ _ _ _ _ d2 _ ((aa D2).1 _ (by omega)) (aa N13) (aa L2).2.2 (aa D2).2).mono ?_
      rintro _ w14 ⟨s14,rfl,hN,hb⟩
      obtain ⟨a14,m14,e14,rfl⟩:=hN.slice
      have N14:=ab hN
      clear hN
      have HB:=bt HB hb
      have HA:=ab ((aa HA).below hb)
      have H1:=ab ((aa H1).below hb)
      have N12:=ab ((aa N12).below hb)
      clear hb
      (try go_wp2_with fail)
      refine oA hKk (⟨aa HA,aa H1⟩) fun hHeld => ?_
      clear hKk Kk
      refine rdA 16 131071 (fun Kk hKk => ?_)
      go_simp
      refine (bc _ _ _ _ _ _ _ _ _ (aa N12) (aa N14)).mono ?_
      rintro _ w15 ⟨rfl,hb⟩
      have HB:=bt HB hb
      have HA:=ab ((aa HA).below hb)
      have H1:=ab ((aa H1).below hb)
      clear hb
      (try go_wp2_with fail)
      refine oA hKk (⟨aa HA,aa H1⟩) fun hHeld => ?_
      clear hKk Kk
      refine tkA 17 9 262143 ?_
      refine wpAnyH_done (by kernel_rfl) ?_ _
      clear hHeld
      have HZ:=HB
      cases n1
      all_goals
       obtain ⟨c0,c1,c2,c3⟩:=aa HA
       obtain ⟨d0,d1',d2',d3⟩:=aa H1
       go_wp2
       go_ret
       exact ⟨by first | rfl | simp,aa HZ⟩
end Go.Proofs.YtpbgpdmffejdgaaGreatDoor
