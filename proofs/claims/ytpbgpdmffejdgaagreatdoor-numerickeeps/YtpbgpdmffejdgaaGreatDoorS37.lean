/- ToI. -/
import Derived.Test.YtpbgpdmffejdgaaGreatDoorS34
namespace Go.Proofs.YtpbgpdmffejdgaaGreatDoor
open Go.RowKit
open Go.Proofs.YtpbgpdmffejdgaaGreatDoor.W

set_option maxHeartbeats 4000000 in
set_option maxRecDepth 100000 in
theorem near_z32 {X S e Xl Xm Sm mo k1 z : Int} {n0 : Bool} {n c n' c' x y : Nat} {a a' : Option Addr} (W : World) (HX : Hid (IsNat W (.slice a n c) x)) (HY : Hid (IsNat W (.slice a' n' c') y)) (HL : Ct 15 #[.int .i64 32, .int .u64 1] (.agg #[.bool false, .int .i64 1, .int .i64 Xl, .int .u64 1])) (HM : Ct 55 #[.int .i64 32, .bool false] (.int .u64 mo)) (HO : Ct 15 #[.int .i64 32, .int .u64 mo] (.agg #[.bool false, .int .i64 1, .int .i64 Xm, .int .u64 Sm]))
    (e1 : IntKind.i64.wrap (Xl - 1) = k1) (HC : Hid (∀ W, IsNat W (.slice a n c) x → IsNat W (.slice a' n' c') y → Calls Tryz.prog 22 #[.agg #[.slice a n c, .slice a' n' c', .int .i64 e], .int .u64 1, .int .i64 k1] W fun r W' => r = .returned (.int .i64 z) ∧ Below W.heap.size W W')) (hz : z = -1 ∨ z = 0) :
    Calls Tryz.prog 18 #[.int .i64 32, .agg #[.bool n0, .int .i64 0, .int .i64 X, .int .u64 S], .agg #[.slice a n c, .slice a' n' c', .int .i64 e]] W fun r W' => r = .returned (.bool true) ∧ Below W.heap.size W W' := by
  have HB := hide (below2 W (.cells #[.bool n0, .int .i64 0, .int .i64 X, .int .u64 S] 37) (.cells #[.slice a n c, .slice a' n' c', .int .i64 e] 43))
  have HP := hide (at4_new2a W (.bool n0) (.int .i64 0) (.int .i64 X) (.int .u64 S) 37 (.cells #[.slice a n c, .slice a' n' c', .int .i64 e] 43))
  have HV := hide ((at3v_new (W.alloc (.cells #[.bool n0, .int .i64 0, .int .i64 X, .int .u64 S] 37)) (.slice a n c) (.slice a' n' c') (.int .i64 e) 43))
  rw [show (W.alloc (.cells #[.bool n0, .int .i64 0, .int .i64 X, .int .u64 S] 37)).heap.size = W.heap.size + 1 by simp] at HV
  have HX := hide ((unhide HX).below (below2 W (.cells #[.bool n0, .int .i64 0, .int .i64 X, .int .u64 S] 37) (.cells #[.slice a n c, .slice a' n' c', .int .i64 e] 43)))
  have HY := hide ((unhide HY).below (below2 W (.cells #[.bool n0, .int .i64 0, .int .i64 X, .int .u64 S] 37) (.cells #[.slice a n c, .slice a' n' c', .int .i64 e] 43)))
  go_enter Tryz.func18, Tryz.ntmps18
  go_wp2_with fail
  refine (unhide HL _).mono ?_
  rintro _ w1 ⟨rfl, hb⟩
  have HB := hide (bthen (unhide HB) hb)
  have HP := hide ((unhide HP).below hb)
  have HV := hide ((unhide HV).below hb)
  have HX := hide ((unhide HX).below hb)
  have HY := hide ((unhide HY).below hb)
  clear hb
  skip
  have HB := hide (balloc (unhide HB) (.cells #[.bool false, .int .i64 1, .int .i64 Xl, .int .u64 1] 37))
  have HP := hide ((unhide HP).below (below1 w1 (.cells #[.bool false, .int .i64 1, .int .i64 Xl, .int .u64 1] 37)))
  have HV := hide ((unhide HV).below (below1 w1 (.cells #[.bool false, .int .i64 1, .int .i64 Xl, .int .u64 1] 37)))
  have HX := hide ((unhide HX).below (below1 w1 (.cells #[.bool false, .int .i64 1, .int .i64 Xl, .int .u64 1] 37)))
  have HY := hide ((unhide HY).below (below1 w1 (.cells #[.bool false, .int .i64 1, .int .i64 Xl, .int .u64 1] 37)))
  have HA := hide (at4_new w1 (.bool false) (.int .i64 1) (.int .i64 Xl) (.int .u64 1) 37)
  go_wp2_with fail
  refine (unhide HM _).mono ?_
  rintro _ w2 ⟨rfl, hb⟩
  have HB := hide (bthen (unhide HB) hb)
  have HP := hide ((unhide HP).below hb)
  have HV := hide ((unhide HV).below hb)
  have HX := hide ((unhide HX).below hb)
  have HY := hide ((unhide HY).below hb)
  have HA := hide ((unhide HA).below hb)
  clear hb
  go_wp2_with fail
  refine (unhide HO _).mono ?_
  rintro _ w3 ⟨rfl, hb⟩
  have HB := hide (bthen (unhide HB) hb)
  have HP := hide ((unhide HP).below hb)
  have HV := hide ((unhide HV).below hb)
  have HX := hide ((unhide HX).below hb)
  have HY := hide ((unhide HY).below hb)
  have HA := hide ((unhide HA).below hb)
  clear hb
  skip
  have HB := hide (balloc (unhide HB) (.cells #[.bool false, .int .i64 1, .int .i64 Xm, .int .u64 Sm] 37))
  have HP := hide ((unhide HP).below (below1 w3 (.cells #[.bool false, .int .i64 1, .int .i64 Xm, .int .u64 Sm] 37)))
  have HV := hide ((unhide HV).below (below1 w3 (.cells #[.bool false, .int .i64 1, .int .i64 Xm, .int .u64 Sm] 37)))
  have HX := hide ((unhide HX).below (below1 w3 (.cells #[.bool false, .int .i64 1, .int .i64 Xm, .int .u64 Sm] 37)))
  have HY := hide ((unhide HY).below (below1 w3 (.cells #[.bool false, .int .i64 1, .int .i64 Xm, .int .u64 Sm] 37)))
  have HA := hide ((unhide HA).below (below1 w3 (.cells #[.bool false, .int .i64 1, .int .i64 Xm, .int .u64 Sm] 37)))
  have HQ := hide (at4_new w3 (.bool false) (.int .i64 1) (.int .i64 Xm) (.int .u64 Sm) 37)
  obtain ⟨c0, c1, c2, c3⟩ := unhide HP
  obtain ⟨v0, v1, v2⟩ := unhide HV
  obtain ⟨l0, l1, l2, l3⟩ := unhide HA
  obtain ⟨q0, q1, q2, q3⟩ := unhide HQ
  go_wp2_with fail
  clear c0 c1 c2 c3 v0 v1 v2 l0 l1 l2 l3 q0 q1 q2 q3
  refine (unhide HC _ (unhide HX) (unhide HY)).mono ?_
  rintro _ w4 ⟨rfl, hb⟩
  have HB := hide (bthen (unhide HB) hb)
  have HP := hide ((unhide HP).below hb)
  have HV := hide ((unhide HV).below hb)
  have HX := hide ((unhide HX).below hb)
  have HY := hide ((unhide HY).below hb)
  have HA := hide ((unhide HA).below hb)
  have HQ := hide ((unhide HQ).below hb)
  clear hb
  skip
  have HB' := HB
  rcases hz with rfl | rfl
  all_goals
    go_wp2_with fail
    go_ret
    exact ⟨by first | rfl | simp, unhide HB'⟩
set_option maxHeartbeats 4000000 in
set_option maxRecDepth 100000 in
theorem near_i32 {X S e Xl Xm Sm mo k1 m2 m3 z : Int} {n0 : Bool} {n c n' c' x y : Nat} {a a' : Option Addr} (W : World) (HX : Hid (IsNat W (.slice a n c) x)) (HY : Hid (IsNat W (.slice a' n' c') y)) (HL : Ct 15 #[.int .i64 32, .int .u64 1] (.agg #[.bool false, .int .i64 1, .int .i64 Xl, .int .u64 1])) (HM : Ct 55 #[.int .i64 32, .bool false] (.int .u64 mo)) (HO : Ct 15 #[.int .i64 32, .int .u64 mo] (.agg #[.bool false, .int .i64 1, .int .i64 Xm, .int .u64 Sm]))
    (e1 : IntKind.i64.wrap (Xm - 1) = k1) (e2 : IntKind.u64.wrap (2 * Sm) = m2) (e3 : IntKind.u64.wrap (m2 + 1) = m3) (HC : Hid (∀ W, IsNat W (.slice a n c) x → IsNat W (.slice a' n' c') y → Calls Tryz.prog 22 #[.agg #[.slice a n c, .slice a' n' c', .int .i64 e], .int .u64 m3, .int .i64 k1] W fun r W' => r = .returned (.int .i64 z) ∧ Below W.heap.size W W')) (hz : z = 1 ∨ z = 0) :
    Calls Tryz.prog 18 #[.int .i64 32, .agg #[.bool n0, .int .i64 2, .int .i64 X, .int .u64 S], .agg #[.slice a n c, .slice a' n' c', .int .i64 e]] W fun r W' => r = .returned (.bool true) ∧ Below W.heap.size W W' := by
  have HB := hide (below2 W (.cells #[.bool n0, .int .i64 2, .int .i64 X, .int .u64 S] 37) (.cells #[.slice a n c, .slice a' n' c', .int .i64 e] 43))
  have HP := hide (at4_new2a W (.bool n0) (.int .i64 2) (.int .i64 X) (.int .u64 S) 37 (.cells #[.slice a n c, .slice a' n' c', .int .i64 e] 43))
  have HV := hide ((at3v_new (W.alloc (.cells #[.bool n0, .int .i64 2, .int .i64 X, .int .u64 S] 37)) (.slice a n c) (.slice a' n' c') (.int .i64 e) 43))
  rw [show (W.alloc (.cells #[.bool n0, .int .i64 2, .int .i64 X, .int .u64 S] 37)).heap.size = W.heap.size + 1 by simp] at HV
  have HX := hide ((unhide HX).below (below2 W (.cells #[.bool n0, .int .i64 2, .int .i64 X, .int .u64 S] 37) (.cells #[.slice a n c, .slice a' n' c', .int .i64 e] 43)))
  have HY := hide ((unhide HY).below (below2 W (.cells #[.bool n0, .int .i64 2, .int .i64 X, .int .u64 S] 37) (.cells #[.slice a n c, .slice a' n' c', .int .i64 e] 43)))
  go_enter Tryz.func18, Tryz.ntmps18
  go_wp2_with fail
  refine (unhide HL _).mono ?_
  rintro _ w1 ⟨rfl, hb⟩
  have HB := hide (bthen (unhide HB) hb)
  have HP := hide ((unhide HP).below hb)
  have HV := hide ((unhide HV).below hb)
  have HX := hide ((unhide HX).below hb)
  have HY := hide ((unhide HY).below hb)
  clear hb
  skip
  have HB := hide (balloc (unhide HB) (.cells #[.bool false, .int .i64 1, .int .i64 Xl, .int .u64 1] 37))
  have HP := hide ((unhide HP).below (below1 w1 (.cells #[.bool false, .int .i64 1, .int .i64 Xl, .int .u64 1] 37)))
  have HV := hide ((unhide HV).below (below1 w1 (.cells #[.bool false, .int .i64 1, .int .i64 Xl, .int .u64 1] 37)))
  have HX := hide ((unhide HX).below (below1 w1 (.cells #[.bool false, .int .i64 1, .int .i64 Xl, .int .u64 1] 37)))
  have HY := hide ((unhide HY).below (below1 w1 (.cells #[.bool false, .int .i64 1, .int .i64 Xl, .int .u64 1] 37)))
  have HA := hide (at4_new w1 (.bool false) (.int .i64 1) (.int .i64 Xl) (.int .u64 1) 37)
  go_wp2_with fail
  refine (unhide HM _).mono ?_
  rintro _ w2 ⟨rfl, hb⟩
  have HB := hide (bthen (unhide HB) hb)
  have HP := hide ((unhide HP).below hb)
  have HV := hide ((unhide HV).below hb)
  have HX := hide ((unhide HX).below hb)
  have HY := hide ((unhide HY).below hb)
  have HA := hide ((unhide HA).below hb)
  clear hb
  go_wp2_with fail
  refine (unhide HO _).mono ?_
  rintro _ w3 ⟨rfl, hb⟩
  have HB := hide (bthen (unhide HB) hb)
  have HP := hide ((unhide HP).below hb)
  have HV := hide ((unhide HV).below hb)
  have HX := hide ((unhide HX).below hb)
  have HY := hide ((unhide HY).below hb)
  have HA := hide ((unhide HA).below hb)
  clear hb
  skip
  have HB := hide (balloc (unhide HB) (.cells #[.bool false, .int .i64 1, .int .i64 Xm, .int .u64 Sm] 37))
  have HP := hide ((unhide HP).below (below1 w3 (.cells #[.bool false, .int .i64 1, .int .i64 Xm, .int .u64 Sm] 37)))
  have HV := hide ((unhide HV).below (below1 w3 (.cells #[.bool false, .int .i64 1, .int .i64 Xm, .int .u64 Sm] 37)))
  have HX := hide ((unhide HX).below (below1 w3 (.cells #[.bool false, .int .i64 1, .int .i64 Xm, .int .u64 Sm] 37)))
  have HY := hide ((unhide HY).below (below1 w3 (.cells #[.bool false, .int .i64 1, .int .i64 Xm, .int .u64 Sm] 37)))
  have HA := hide ((unhide HA).below (below1 w3 (.cells #[.bool false, .int .i64 1, .int .i64 Xm, .int .u64 Sm] 37)))
  have HQ := hide (at4_new w3 (.bool false) (.int .i64 1) (.int .i64 Xm) (.int .u64 Sm) 37)
  obtain ⟨c0, c1, c2, c3⟩ := unhide HP
  obtain ⟨v0, v1, v2⟩ := unhide HV
  obtain ⟨l0, l1, l2, l3⟩ := unhide HA
  obtain ⟨q0, q1, q2, q3⟩ := unhide HQ
  go_wp2_with fail
  clear c0 c1 c2 c3 v0 v1 v2 l0 l1 l2 l3 q0 q1 q2 q3
  refine (unhide HC _ (unhide HX) (unhide HY)).mono ?_
  rintro _ w4 ⟨rfl, hb⟩
  have HB := hide (bthen (unhide HB) hb)
  have HP := hide ((unhide HP).below hb)
  have HV := hide ((unhide HV).below hb)
  have HX := hide ((unhide HX).below hb)
  have HY := hide ((unhide HY).below hb)
  have HA := hide ((unhide HA).below hb)
  have HQ := hide ((unhide HQ).below hb)
  clear hb
  skip
  have HB' := HB
  rcases hz with rfl | rfl
  all_goals
    go_wp2_with fail
    go_ret
    exact ⟨by first | rfl | simp, unhide HB'⟩
set_option maxHeartbeats 4000000 in
set_option maxRecDepth 100000 in
theorem near_f32 {X S e Xl Xm Sm mo p2 pm pp p4 pq x1 x2 u d1 d2 : Int} {n0 : Bool} {n c n' c' x y : Nat} {a a' : Option Addr} (W : World) (HX : Hid (IsNat W (.slice a n c) x)) (HY : Hid (IsNat W (.slice a' n' c') y)) (HL : Ct 15 #[.int .i64 32, .int .u64 1] (.agg #[.bool false, .int .i64 1, .int .i64 Xl, .int .u64 1])) (HM : Ct 55 #[.int .i64 32, .bool false] (.int .u64 mo)) (HO : Ct 15 #[.int .i64 32, .int .u64 mo] (.agg #[.bool false, .int .i64 1, .int .i64 Xm, .int .u64 Sm]))
    (e1 : IntKind.u64.wrap (2 * S) = p2) (e2 : IntKind.u64.wrap (p2 - 1) = pm) (e3 : IntKind.u64.wrap (p2 + 1) = pp) (e4 : IntKind.u64.wrap (4 * S) = p4) (e5 : IntKind.u64.wrap (p4 - 1) = pq) (e6 : IntKind.i64.wrap (X - 1) = x1) (e7 : IntKind.i64.wrap (X - 2) = x2) (s0 : 0 ≤ S) (HF : Ct 23 #[.int .i64 32] (.tuple #[.int .i64 8, .int .i64 23]))
    (HU : Hid (∀ W, IsNat W (.slice a n c) x → IsNat W (.slice a' n' c') y → Calls Tryz.prog 22 #[.agg #[.slice a n c, .slice a' n' c', .int .i64 e], .int .u64 pp, .int .i64 x1] W fun r W' => r = .returned (.int .i64 u) ∧ Below W.heap.size W W')) (HD : Hid (∀ W, IsNat W (.slice a n c) x → IsNat W (.slice a' n' c') y → Calls Tryz.prog 22 #[.agg #[.slice a n c, .slice a' n' c', .int .i64 e], .int .u64 pm, .int .i64 x1] W fun r W' => r = .returned (.int .i64 d1) ∧ Below W.heap.size W W')) (HE : (S == 8388608) = true → Xl < X → Hid (∀ W, IsNat W (.slice a n c) x → IsNat W (.slice a' n' c') y → Calls Tryz.prog 22 #[.agg #[.slice a n c, .slice a' n' c', .int .i64 e], .int .u64 pq, .int .i64 x2] W fun r W' => r = .returned (.int .i64 d2) ∧ Below W.heap.size W W'))
    (hu : u = -1 ∨ u = 0 ∧ S % 2 = 0) (hd : (S == 8388608) = true ∧ Xl < X ∧ (d2 = 1 ∨ d2 = 0 ∧ S % 2 = 0) ∨ ((S == 8388608) = false ∨ (S == 8388608) = true ∧ ¬ Xl < X) ∧ (d1 = 1 ∨ d1 = 0 ∧ S % 2 = 0)) :
    Calls Tryz.prog 18 #[.int .i64 32, .agg #[.bool n0, .int .i64 1, .int .i64 X, .int .u64 S], .agg #[.slice a n c, .slice a' n' c', .int .i64 e]] W fun r W' => r = .returned (.bool true) ∧ Below W.heap.size W W' := by
  have HB := hide (below2 W (.cells #[.bool n0, .int .i64 1, .int .i64 X, .int .u64 S] 37) (.cells #[.slice a n c, .slice a' n' c', .int .i64 e] 43))
  have HP := hide (at4_new2a W (.bool n0) (.int .i64 1) (.int .i64 X) (.int .u64 S) 37 (.cells #[.slice a n c, .slice a' n' c', .int .i64 e] 43))
  have HV := hide ((at3v_new (W.alloc (.cells #[.bool n0, .int .i64 1, .int .i64 X, .int .u64 S] 37)) (.slice a n c) (.slice a' n' c') (.int .i64 e) 43))
  rw [show (W.alloc (.cells #[.bool n0, .int .i64 1, .int .i64 X, .int .u64 S] 37)).heap.size = W.heap.size + 1 by simp] at HV
  have HX := hide ((unhide HX).below (below2 W (.cells #[.bool n0, .int .i64 1, .int .i64 X, .int .u64 S] 37) (.cells #[.slice a n c, .slice a' n' c', .int .i64 e] 43)))
  have HY := hide ((unhide HY).below (below2 W (.cells #[.bool n0, .int .i64 1, .int .i64 X, .int .u64 S] 37) (.cells #[.slice a n c, .slice a' n' c', .int .i64 e] 43)))
  go_enter Tryz.func18, Tryz.ntmps18
  go_wp2_with fail
  refine (unhide HL _).mono ?_
  rintro _ w1 ⟨rfl, hb⟩
  have HB := hide (bthen (unhide HB) hb)
  have HP := hide ((unhide HP).below hb)
  have HV := hide ((unhide HV).below hb)
  have HX := hide ((unhide HX).below hb)
  have HY := hide ((unhide HY).below hb)
  clear hb
  skip
  have HB := hide (balloc (unhide HB) (.cells #[.bool false, .int .i64 1, .int .i64 Xl, .int .u64 1] 37))
  have HP := hide ((unhide HP).below (below1 w1 (.cells #[.bool false, .int .i64 1, .int .i64 Xl, .int .u64 1] 37)))
  have HV := hide ((unhide HV).below (below1 w1 (.cells #[.bool false, .int .i64 1, .int .i64 Xl, .int .u64 1] 37)))
  have HX := hide ((unhide HX).below (below1 w1 (.cells #[.bool false, .int .i64 1, .int .i64 Xl, .int .u64 1] 37)))
  have HY := hide ((unhide HY).below (below1 w1 (.cells #[.bool false, .int .i64 1, .int .i64 Xl, .int .u64 1] 37)))
  have HA := hide (at4_new w1 (.bool false) (.int .i64 1) (.int .i64 Xl) (.int .u64 1) 37)
  go_wp2_with fail
  refine (unhide HM _).mono ?_
  rintro _ w2 ⟨rfl, hb⟩
  have HB := hide (bthen (unhide HB) hb)
  have HP := hide ((unhide HP).below hb)
  have HV := hide ((unhide HV).below hb)
  have HX := hide ((unhide HX).below hb)
  have HY := hide ((unhide HY).below hb)
  have HA := hide ((unhide HA).below hb)
  clear hb
  go_wp2_with fail
  refine (unhide HO _).mono ?_
  rintro _ w3 ⟨rfl, hb⟩
  have HB := hide (bthen (unhide HB) hb)
  have HP := hide ((unhide HP).below hb)
  have HV := hide ((unhide HV).below hb)
  have HX := hide ((unhide HX).below hb)
  have HY := hide ((unhide HY).below hb)
  have HA := hide ((unhide HA).below hb)
  clear hb
  skip
  have HB := hide (balloc (unhide HB) (.cells #[.bool false, .int .i64 1, .int .i64 Xm, .int .u64 Sm] 37))
  have HP := hide ((unhide HP).below (below1 w3 (.cells #[.bool false, .int .i64 1, .int .i64 Xm, .int .u64 Sm] 37)))
  have HV := hide ((unhide HV).below (below1 w3 (.cells #[.bool false, .int .i64 1, .int .i64 Xm, .int .u64 Sm] 37)))
  have HX := hide ((unhide HX).below (below1 w3 (.cells #[.bool false, .int .i64 1, .int .i64 Xm, .int .u64 Sm] 37)))
  have HY := hide ((unhide HY).below (below1 w3 (.cells #[.bool false, .int .i64 1, .int .i64 Xm, .int .u64 Sm] 37)))
  have HA := hide ((unhide HA).below (below1 w3 (.cells #[.bool false, .int .i64 1, .int .i64 Xm, .int .u64 Sm] 37)))
  have HQ := hide (at4_new w3 (.bool false) (.int .i64 1) (.int .i64 Xm) (.int .u64 Sm) 37)
  obtain ⟨c0, c1, c2, c3⟩ := unhide HP
  obtain ⟨v0, v1, v2⟩ := unhide HV
  obtain ⟨l0, l1, l2, l3⟩ := unhide HA
  obtain ⟨q0, q1, q2, q3⟩ := unhide HQ
  go_wp2_with fail
  clear c0 c1 c2 c3 v0 v1 v2 l0 l1 l2 l3 q0 q1 q2 q3
  refine (unhide HU _ (unhide HX) (unhide HY)).mono ?_
  rintro _ w4 ⟨rfl, hb⟩
  have HB := hide (bthen (unhide HB) hb)
  have HP := hide ((unhide HP).below hb)
  have HV := hide ((unhide HV).below hb)
  have HX := hide ((unhide HX).below hb)
  have HY := hide ((unhide HY).below hb)
  have HA := hide ((unhide HA).below hb)
  have HQ := hide ((unhide HQ).below hb)
  clear hb
  skip
  obtain ⟨c0, c1, c2, c3⟩ := unhide HP
  obtain ⟨v0, v1, v2⟩ := unhide HV
  obtain ⟨l0, l1, l2, l3⟩ := unhide HA
  obtain ⟨q0, q1, q2, q3⟩ := unhide HQ
  go_wp2_with fail
  clear c0 c1 c2 c3 v0 v1 v2 l0 l1 l2 l3 q0 q1 q2 q3
  refine (unhide HD _ (unhide HX) (unhide HY)).mono ?_
  rintro _ w5 ⟨rfl, hb⟩
  have HB := hide (bthen (unhide HB) hb)
  have HP := hide ((unhide HP).below hb)
  have HV := hide ((unhide HV).below hb)
  have HX := hide ((unhide HX).below hb)
  have HY := hide ((unhide HY).below hb)
  have HA := hide ((unhide HA).below hb)
  have HQ := hide ((unhide HQ).below hb)
  clear hb
  skip
  obtain ⟨c0, c1, c2, c3⟩ := unhide HP
  obtain ⟨v0, v1, v2⟩ := unhide HV
  obtain ⟨l0, l1, l2, l3⟩ := unhide HA
  obtain ⟨q0, q1, q2, q3⟩ := unhide HQ
  go_wp2_with fail
  clear c0 c1 c2 c3 v0 v1 v2 l0 l1 l2 l3 q0 q1 q2 q3
  refine (unhide HF _).mono ?_
  rintro _ w6 ⟨rfl, hb⟩
  have HB := hide (bthen (unhide HB) hb)
  have HP := hide ((unhide HP).below hb)
  have HV := hide ((unhide HV).below hb)
  have HX := hide ((unhide HX).below hb)
  have HY := hide ((unhide HY).below hb)
  have HA := hide ((unhide HA).below hb)
  have HQ := hide ((unhide HQ).below hb)
  clear hb
  skip
  have HB := hide (unhide HB).drew
  have HP := hide ((unhide HP).below ((Below.refl _ _).drew))
  have HV := hide ((unhide HV).below ((Below.refl _ _).drew))
  have HX := hide ((unhide HX).below ((Below.refl _ _).drew))
  have HY := hide ((unhide HY).below ((Below.refl _ _).drew))
  have HA := hide ((unhide HA).below ((Below.refl _ _).drew))
  have HQ := hide ((unhide HQ).below ((Below.refl _ _).drew))
  have hsh : IntKind.u64.wrap (1 * 2 ^ 23) = 8388608 := by decide
  rcases hd with ⟨bt, bx, hd⟩ | ⟨bt, hd⟩
  · have HE := HE bt bx
    obtain ⟨c0, c1, c2, c3⟩ := unhide HP
    obtain ⟨v0, v1, v2⟩ := unhide HV
    obtain ⟨l0, l1, l2, l3⟩ := unhide HA
    obtain ⟨q0, q1, q2, q3⟩ := unhide HQ
    go_wp2_with fail
    go_region
    go_wp2_with fail
    clear c0 c1 c2 c3 v0 v1 v2 l0 l1 l2 l3 q0 q1 q2 q3
    refine (unhide HE _ (unhide HX) (unhide HY)).mono ?_
    rintro _ w7 ⟨rfl, hb⟩
    have HB := hide (bthen (unhide HB) hb)
    have HP := hide ((unhide HP).below hb)
    have HV := hide ((unhide HV).below hb)
    have HX := hide ((unhide HX).below hb)
    have HY := hide ((unhide HY).below hb)
    have HA := hide ((unhide HA).below hb)
    have HQ := hide ((unhide HQ).below hb)
    clear hb
    skip
    have HB' := HB
    rcases hu with rfl | ⟨rfl, hev⟩
    all_goals
      rcases hd with rfl | ⟨rfl, hev'⟩
      all_goals
        obtain ⟨c0, c1, c2, c3⟩ := unhide HP
        obtain ⟨v0, v1, v2⟩ := unhide HV
        obtain ⟨l0, l1, l2, l3⟩ := unhide HA
        obtain ⟨q0, q1, q2, q3⟩ := unhide HQ
        go_wp2_with fail
        go_ret
        exact ⟨by first | rfl | simp, unhide HB'⟩
  · clear HE
    rcases bt with bt | ⟨bt, bx⟩
    · have HB' := HB
      rcases hu with rfl | ⟨rfl, hev⟩
      all_goals
        rcases hd with rfl | ⟨rfl, hev'⟩
        all_goals
          obtain ⟨c0, c1, c2, c3⟩ := unhide HP
          obtain ⟨v0, v1, v2⟩ := unhide HV
          obtain ⟨l0, l1, l2, l3⟩ := unhide HA
          obtain ⟨q0, q1, q2, q3⟩ := unhide HQ
          go_wp2_with fail
          go_region
          go_wp2_with fail
          go_ret
          exact ⟨by first | rfl | simp, unhide HB'⟩
    · have HB' := HB
      rcases hu with rfl | ⟨rfl, hev⟩
      all_goals
        rcases hd with rfl | ⟨rfl, hev'⟩
        all_goals
          obtain ⟨c0, c1, c2, c3⟩ := unhide HP
          obtain ⟨v0, v1, v2⟩ := unhide HV
          obtain ⟨l0, l1, l2, l3⟩ := unhide HA
          obtain ⟨q0, q1, q2, q3⟩ := unhide HQ
          go_wp2_with fail
          go_region
          go_wp2_with fail
          go_ret
          exact ⟨by first | rfl | simp, unhide HB'⟩
set_option maxHeartbeats 4000000 in
set_option maxRecDepth 100000 in
theorem near_z64 {X S e Xl Xm Sm mo k1 z : Int} {n0 : Bool} {n c n' c' x y : Nat} {a a' : Option Addr} (W : World) (HX : Hid (IsNat W (.slice a n c) x)) (HY : Hid (IsNat W (.slice a' n' c') y)) (HL : Ct 15 #[.int .i64 64, .int .u64 1] (.agg #[.bool false, .int .i64 1, .int .i64 Xl, .int .u64 1])) (HM : Ct 55 #[.int .i64 64, .bool false] (.int .u64 mo)) (HO : Ct 15 #[.int .i64 64, .int .u64 mo] (.agg #[.bool false, .int .i64 1, .int .i64 Xm, .int .u64 Sm]))
    (e1 : IntKind.i64.wrap (Xl - 1) = k1) (HC : Hid (∀ W, IsNat W (.slice a n c) x → IsNat W (.slice a' n' c') y → Calls Tryz.prog 22 #[.agg #[.slice a n c, .slice a' n' c', .int .i64 e], .int .u64 1, .int .i64 k1] W fun r W' => r = .returned (.int .i64 z) ∧ Below W.heap.size W W')) (hz : z = -1 ∨ z = 0) :
    Calls Tryz.prog 18 #[.int .i64 64, .agg #[.bool n0, .int .i64 0, .int .i64 X, .int .u64 S], .agg #[.slice a n c, .slice a' n' c', .int .i64 e]] W fun r W' => r = .returned (.bool true) ∧ Below W.heap.size W W' := by
  have HB := hide (below2 W (.cells #[.bool n0, .int .i64 0, .int .i64 X, .int .u64 S] 37) (.cells #[.slice a n c, .slice a' n' c', .int .i64 e] 43))
  have HP := hide (at4_new2a W (.bool n0) (.int .i64 0) (.int .i64 X) (.int .u64 S) 37 (.cells #[.slice a n c, .slice a' n' c', .int .i64 e] 43))
  have HV := hide ((at3v_new (W.alloc (.cells #[.bool n0, .int .i64 0, .int .i64 X, .int .u64 S] 37)) (.slice a n c) (.slice a' n' c') (.int .i64 e) 43))
  rw [show (W.alloc (.cells #[.bool n0, .int .i64 0, .int .i64 X, .int .u64 S] 37)).heap.size = W.heap.size + 1 by simp] at HV
  have HX := hide ((unhide HX).below (below2 W (.cells #[.bool n0, .int .i64 0, .int .i64 X, .int .u64 S] 37) (.cells #[.slice a n c, .slice a' n' c', .int .i64 e] 43)))
  have HY := hide ((unhide HY).below (below2 W (.cells #[.bool n0, .int .i64 0, .int .i64 X, .int .u64 S] 37) (.cells #[.slice a n c, .slice a' n' c', .int .i64 e] 43)))
  go_enter Tryz.func18, Tryz.ntmps18
  go_wp2_with fail
  refine (unhide HL _).mono ?_
  rintro _ w1 ⟨rfl, hb⟩
  have HB := hide (bthen (unhide HB) hb)
  have HP := hide ((unhide HP).below hb)
  have HV := hide ((unhide HV).below hb)
  have HX := hide ((unhide HX).below hb)
  have HY := hide ((unhide HY).below hb)
  clear hb
  skip
  have HB := hide (balloc (unhide HB) (.cells #[.bool false, .int .i64 1, .int .i64 Xl, .int .u64 1] 37))
  have HP := hide ((unhide HP).below (below1 w1 (.cells #[.bool false, .int .i64 1, .int .i64 Xl, .int .u64 1] 37)))
  have HV := hide ((unhide HV).below (below1 w1 (.cells #[.bool false, .int .i64 1, .int .i64 Xl, .int .u64 1] 37)))
  have HX := hide ((unhide HX).below (below1 w1 (.cells #[.bool false, .int .i64 1, .int .i64 Xl, .int .u64 1] 37)))
  have HY := hide ((unhide HY).below (below1 w1 (.cells #[.bool false, .int .i64 1, .int .i64 Xl, .int .u64 1] 37)))
  have HA := hide (at4_new w1 (.bool false) (.int .i64 1) (.int .i64 Xl) (.int .u64 1) 37)
  go_wp2_with fail
  refine (unhide HM _).mono ?_
  rintro _ w2 ⟨rfl, hb⟩
  have HB := hide (bthen (unhide HB) hb)
  have HP := hide ((unhide HP).below hb)
  have HV := hide ((unhide HV).below hb)
  have HX := hide ((unhide HX).below hb)
  have HY := hide ((unhide HY).below hb)
  have HA := hide ((unhide HA).below hb)
  clear hb
  go_wp2_with fail
  refine (unhide HO _).mono ?_
  rintro _ w3 ⟨rfl, hb⟩
  have HB := hide (bthen (unhide HB) hb)
  have HP := hide ((unhide HP).below hb)
  have HV := hide ((unhide HV).below hb)
  have HX := hide ((unhide HX).below hb)
  have HY := hide ((unhide HY).below hb)
  have HA := hide ((unhide HA).below hb)
  clear hb
  skip
  have HB := hide (balloc (unhide HB) (.cells #[.bool false, .int .i64 1, .int .i64 Xm, .int .u64 Sm] 37))
  have HP := hide ((unhide HP).below (below1 w3 (.cells #[.bool false, .int .i64 1, .int .i64 Xm, .int .u64 Sm] 37)))
  have HV := hide ((unhide HV).below (below1 w3 (.cells #[.bool false, .int .i64 1, .int .i64 Xm, .int .u64 Sm] 37)))
  have HX := hide ((unhide HX).below (below1 w3 (.cells #[.bool false, .int .i64 1, .int .i64 Xm, .int .u64 Sm] 37)))
  have HY := hide ((unhide HY).below (below1 w3 (.cells #[.bool false, .int .i64 1, .int .i64 Xm, .int .u64 Sm] 37)))
  have HA := hide ((unhide HA).below (below1 w3 (.cells #[.bool false, .int .i64 1, .int .i64 Xm, .int .u64 Sm] 37)))
  have HQ := hide (at4_new w3 (.bool false) (.int .i64 1) (.int .i64 Xm) (.int .u64 Sm) 37)
  obtain ⟨c0, c1, c2, c3⟩ := unhide HP
  obtain ⟨v0, v1, v2⟩ := unhide HV
  obtain ⟨l0, l1, l2, l3⟩ := unhide HA
  obtain ⟨q0, q1, q2, q3⟩ := unhide HQ
  go_wp2_with fail
  clear c0 c1 c2 c3 v0 v1 v2 l0 l1 l2 l3 q0 q1 q2 q3
  refine (unhide HC _ (unhide HX) (unhide HY)).mono ?_
  rintro _ w4 ⟨rfl, hb⟩
  have HB := hide (bthen (unhide HB) hb)
  have HP := hide ((unhide HP).below hb)
  have HV := hide ((unhide HV).below hb)
  have HX := hide ((unhide HX).below hb)
  have HY := hide ((unhide HY).below hb)
  have HA := hide ((unhide HA).below hb)
  have HQ := hide ((unhide HQ).below hb)
  clear hb
  skip
  have HB' := HB
  rcases hz with rfl | rfl
  all_goals
    go_wp2_with fail
    go_ret
    exact ⟨by first | rfl | simp, unhide HB'⟩
set_option maxHeartbeats 4000000 in
set_option maxRecDepth 100000 in
theorem near_i64 {X S e Xl Xm Sm mo k1 m2 m3 z : Int} {n0 : Bool} {n c n' c' x y : Nat} {a a' : Option Addr} (W : World) (HX : Hid (IsNat W (.slice a n c) x)) (HY : Hid (IsNat W (.slice a' n' c') y)) (HL : Ct 15 #[.int .i64 64, .int .u64 1] (.agg #[.bool false, .int .i64 1, .int .i64 Xl, .int .u64 1])) (HM : Ct 55 #[.int .i64 64, .bool false] (.int .u64 mo)) (HO : Ct 15 #[.int .i64 64, .int .u64 mo] (.agg #[.bool false, .int .i64 1, .int .i64 Xm, .int .u64 Sm]))
    (e1 : IntKind.i64.wrap (Xm - 1) = k1) (e2 : IntKind.u64.wrap (2 * Sm) = m2) (e3 : IntKind.u64.wrap (m2 + 1) = m3) (HC : Hid (∀ W, IsNat W (.slice a n c) x → IsNat W (.slice a' n' c') y → Calls Tryz.prog 22 #[.agg #[.slice a n c, .slice a' n' c', .int .i64 e], .int .u64 m3, .int .i64 k1] W fun r W' => r = .returned (.int .i64 z) ∧ Below W.heap.size W W')) (hz : z = 1 ∨ z = 0) :
    Calls Tryz.prog 18 #[.int .i64 64, .agg #[.bool n0, .int .i64 2, .int .i64 X, .int .u64 S], .agg #[.slice a n c, .slice a' n' c', .int .i64 e]] W fun r W' => r = .returned (.bool true) ∧ Below W.heap.size W W' := by
  have HB := hide (below2 W (.cells #[.bool n0, .int .i64 2, .int .i64 X, .int .u64 S] 37) (.cells #[.slice a n c, .slice a' n' c', .int .i64 e] 43))
  have HP := hide (at4_new2a W (.bool n0) (.int .i64 2) (.int .i64 X) (.int .u64 S) 37 (.cells #[.slice a n c, .slice a' n' c', .int .i64 e] 43))
  have HV := hide ((at3v_new (W.alloc (.cells #[.bool n0, .int .i64 2, .int .i64 X, .int .u64 S] 37)) (.slice a n c) (.slice a' n' c') (.int .i64 e) 43))
  rw [show (W.alloc (.cells #[.bool n0, .int .i64 2, .int .i64 X, .int .u64 S] 37)).heap.size = W.heap.size + 1 by simp] at HV
  have HX := hide ((unhide HX).below (below2 W (.cells #[.bool n0, .int .i64 2, .int .i64 X, .int .u64 S] 37) (.cells #[.slice a n c, .slice a' n' c', .int .i64 e] 43)))
  have HY := hide ((unhide HY).below (below2 W (.cells #[.bool n0, .int .i64 2, .int .i64 X, .int .u64 S] 37) (.cells #[.slice a n c, .slice a' n' c', .int .i64 e] 43)))
  go_enter Tryz.func18, Tryz.ntmps18
  go_wp2_with fail
  refine (unhide HL _).mono ?_
  rintro _ w1 ⟨rfl, hb⟩
  have HB := hide (bthen (unhide HB) hb)
  have HP := hide ((unhide HP).below hb)
  have HV := hide ((unhide HV).below hb)
  have HX := hide ((unhide HX).below hb)
  have HY := hide ((unhide HY).below hb)
  clear hb
  skip
  have HB := hide (balloc (unhide HB) (.cells #[.bool false, .int .i64 1, .int .i64 Xl, .int .u64 1] 37))
  have HP := hide ((unhide HP).below (below1 w1 (.cells #[.bool false, .int .i64 1, .int .i64 Xl, .int .u64 1] 37)))
  have HV := hide ((unhide HV).below (below1 w1 (.cells #[.bool false, .int .i64 1, .int .i64 Xl, .int .u64 1] 37)))
  have HX := hide ((unhide HX).below (below1 w1 (.cells #[.bool false, .int .i64 1, .int .i64 Xl, .int .u64 1] 37)))
  have HY := hide ((unhide HY).below (below1 w1 (.cells #[.bool false, .int .i64 1, .int .i64 Xl, .int .u64 1] 37)))
  have HA := hide (at4_new w1 (.bool false) (.int .i64 1) (.int .i64 Xl) (.int .u64 1) 37)
  go_wp2_with fail
  refine (unhide HM _).mono ?_
  rintro _ w2 ⟨rfl, hb⟩
  have HB := hide (bthen (unhide HB) hb)
  have HP := hide ((unhide HP).below hb)
  have HV := hide ((unhide HV).below hb)
  have HX := hide ((unhide HX).below hb)
  have HY := hide ((unhide HY).below hb)
  have HA := hide ((unhide HA).below hb)
  clear hb
  go_wp2_with fail
  refine (unhide HO _).mono ?_
  rintro _ w3 ⟨rfl, hb⟩
  have HB := hide (bthen (unhide HB) hb)
  have HP := hide ((unhide HP).below hb)
  have HV := hide ((unhide HV).below hb)
  have HX := hide ((unhide HX).below hb)
  have HY := hide ((unhide HY).below hb)
  have HA := hide ((unhide HA).below hb)
  clear hb
  skip
  have HB := hide (balloc (unhide HB) (.cells #[.bool false, .int .i64 1, .int .i64 Xm, .int .u64 Sm] 37))
  have HP := hide ((unhide HP).below (below1 w3 (.cells #[.bool false, .int .i64 1, .int .i64 Xm, .int .u64 Sm] 37)))
  have HV := hide ((unhide HV).below (below1 w3 (.cells #[.bool false, .int .i64 1, .int .i64 Xm, .int .u64 Sm] 37)))
  have HX := hide ((unhide HX).below (below1 w3 (.cells #[.bool false, .int .i64 1, .int .i64 Xm, .int .u64 Sm] 37)))
  have HY := hide ((unhide HY).below (below1 w3 (.cells #[.bool false, .int .i64 1, .int .i64 Xm, .int .u64 Sm] 37)))
  have HA := hide ((unhide HA).below (below1 w3 (.cells #[.bool false, .int .i64 1, .int .i64 Xm, .int .u64 Sm] 37)))
  have HQ := hide (at4_new w3 (.bool false) (.int .i64 1) (.int .i64 Xm) (.int .u64 Sm) 37)
  obtain ⟨c0, c1, c2, c3⟩ := unhide HP
  obtain ⟨v0, v1, v2⟩ := unhide HV
  obtain ⟨l0, l1, l2, l3⟩ := unhide HA
  obtain ⟨q0, q1, q2, q3⟩ := unhide HQ
  go_wp2_with fail
  clear c0 c1 c2 c3 v0 v1 v2 l0 l1 l2 l3 q0 q1 q2 q3
  refine (unhide HC _ (unhide HX) (unhide HY)).mono ?_
  rintro _ w4 ⟨rfl, hb⟩
  have HB := hide (bthen (unhide HB) hb)
  have HP := hide ((unhide HP).below hb)
  have HV := hide ((unhide HV).below hb)
  have HX := hide ((unhide HX).below hb)
  have HY := hide ((unhide HY).below hb)
  have HA := hide ((unhide HA).below hb)
  have HQ := hide ((unhide HQ).below hb)
  clear hb
  skip
  have HB' := HB
  rcases hz with rfl | rfl
  all_goals
    go_wp2_with fail
    go_ret
    exact ⟨by first | rfl | simp, unhide HB'⟩
set_option maxHeartbeats 4000000 in
set_option maxRecDepth 100000 in
theorem near_f64 {X S e Xl Xm Sm mo p2 pm pp p4 pq x1 x2 u d1 d2 : Int} {n0 : Bool} {n c n' c' x y : Nat} {a a' : Option Addr} (W : World) (HX : Hid (IsNat W (.slice a n c) x)) (HY : Hid (IsNat W (.slice a' n' c') y)) (HL : Ct 15 #[.int .i64 64, .int .u64 1] (.agg #[.bool false, .int .i64 1, .int .i64 Xl, .int .u64 1])) (HM : Ct 55 #[.int .i64 64, .bool false] (.int .u64 mo)) (HO : Ct 15 #[.int .i64 64, .int .u64 mo] (.agg #[.bool false, .int .i64 1, .int .i64 Xm, .int .u64 Sm]))
    (e1 : IntKind.u64.wrap (2 * S) = p2) (e2 : IntKind.u64.wrap (p2 - 1) = pm) (e3 : IntKind.u64.wrap (p2 + 1) = pp) (e4 : IntKind.u64.wrap (4 * S) = p4) (e5 : IntKind.u64.wrap (p4 - 1) = pq) (e6 : IntKind.i64.wrap (X - 1) = x1) (e7 : IntKind.i64.wrap (X - 2) = x2) (s0 : 0 ≤ S) (HF : Ct 23 #[.int .i64 64] (.tuple #[.int .i64 11, .int .i64 52]))
    (HU : Hid (∀ W, IsNat W (.slice a n c) x → IsNat W (.slice a' n' c') y → Calls Tryz.prog 22 #[.agg #[.slice a n c, .slice a' n' c', .int .i64 e], .int .u64 pp, .int .i64 x1] W fun r W' => r = .returned (.int .i64 u) ∧ Below W.heap.size W W')) (HD : Hid (∀ W, IsNat W (.slice a n c) x → IsNat W (.slice a' n' c') y → Calls Tryz.prog 22 #[.agg #[.slice a n c, .slice a' n' c', .int .i64 e], .int .u64 pm, .int .i64 x1] W fun r W' => r = .returned (.int .i64 d1) ∧ Below W.heap.size W W')) (HE : (S == 4503599627370496) = true → Xl < X → Hid (∀ W, IsNat W (.slice a n c) x → IsNat W (.slice a' n' c') y → Calls Tryz.prog 22 #[.agg #[.slice a n c, .slice a' n' c', .int .i64 e], .int .u64 pq, .int .i64 x2] W fun r W' => r = .returned (.int .i64 d2) ∧ Below W.heap.size W W'))
    (hu : u = -1 ∨ u = 0 ∧ S % 2 = 0) (hd : (S == 4503599627370496) = true ∧ Xl < X ∧ (d2 = 1 ∨ d2 = 0 ∧ S % 2 = 0) ∨ ((S == 4503599627370496) = false ∨ (S == 4503599627370496) = true ∧ ¬ Xl < X) ∧ (d1 = 1 ∨ d1 = 0 ∧ S % 2 = 0)) :
    Calls Tryz.prog 18 #[.int .i64 64, .agg #[.bool n0, .int .i64 1, .int .i64 X, .int .u64 S], .agg #[.slice a n c, .slice a' n' c', .int .i64 e]] W fun r W' => r = .returned (.bool true) ∧ Below W.heap.size W W' := by
  have HB := hide (below2 W (.cells #[.bool n0, .int .i64 1, .int .i64 X, .int .u64 S] 37) (.cells #[.slice a n c, .slice a' n' c', .int .i64 e] 43))
  have HP := hide (at4_new2a W (.bool n0) (.int .i64 1) (.int .i64 X) (.int .u64 S) 37 (.cells #[.slice a n c, .slice a' n' c', .int .i64 e] 43))
  have HV := hide ((at3v_new (W.alloc (.cells #[.bool n0, .int .i64 1, .int .i64 X, .int .u64 S] 37)) (.slice a n c) (.slice a' n' c') (.int .i64 e) 43))
  rw [show (W.alloc (.cells #[.bool n0, .int .i64 1, .int .i64 X, .int .u64 S] 37)).heap.size = W.heap.size + 1 by simp] at HV
  have HX := hide ((unhide HX).below (below2 W (.cells #[.bool n0, .int .i64 1, .int .i64 X, .int .u64 S] 37) (.cells #[.slice a n c, .slice a' n' c', .int .i64 e] 43)))
  have HY := hide ((unhide HY).below (below2 W (.cells #[.bool n0, .int .i64 1, .int .i64 X, .int .u64 S] 37) (.cells #[.slice a n c, .slice a' n' c', .int .i64 e] 43)))
  go_enter Tryz.func18, Tryz.ntmps18
  go_wp2_with fail
  refine (unhide HL _).mono ?_
  rintro _ w1 ⟨rfl, hb⟩
  have HB := hide (bthen (unhide HB) hb)
  have HP := hide ((unhide HP).below hb)
  have HV := hide ((unhide HV).below hb)
  have HX := hide ((unhide HX).below hb)
  have HY := hide ((unhide HY).below hb)
  clear hb
  skip
  have HB := hide (balloc (unhide HB) (.cells #[.bool false, .int .i64 1, .int .i64 Xl, .int .u64 1] 37))
  have HP := hide ((unhide HP).below (below1 w1 (.cells #[.bool false, .int .i64 1, .int .i64 Xl, .int .u64 1] 37)))
  have HV := hide ((unhide HV).below (below1 w1 (.cells #[.bool false, .int .i64 1, .int .i64 Xl, .int .u64 1] 37)))
  have HX := hide ((unhide HX).below (below1 w1 (.cells #[.bool false, .int .i64 1, .int .i64 Xl, .int .u64 1] 37)))
  have HY := hide ((unhide HY).below (below1 w1 (.cells #[.bool false, .int .i64 1, .int .i64 Xl, .int .u64 1] 37)))
  have HA := hide (at4_new w1 (.bool false) (.int .i64 1) (.int .i64 Xl) (.int .u64 1) 37)
  go_wp2_with fail
  refine (unhide HM _).mono ?_
  rintro _ w2 ⟨rfl, hb⟩
  have HB := hide (bthen (unhide HB) hb)
  have HP := hide ((unhide HP).below hb)
  have HV := hide ((unhide HV).below hb)
  have HX := hide ((unhide HX).below hb)
  have HY := hide ((unhide HY).below hb)
  have HA := hide ((unhide HA).below hb)
  clear hb
  go_wp2_with fail
  refine (unhide HO _).mono ?_
  rintro _ w3 ⟨rfl, hb⟩
  have HB := hide (bthen (unhide HB) hb)
  have HP := hide ((unhide HP).below hb)
  have HV := hide ((unhide HV).below hb)
  have HX := hide ((unhide HX).below hb)
  have HY := hide ((unhide HY).below hb)
  have HA := hide ((unhide HA).below hb)
  clear hb
  skip
  have HB := hide (balloc (unhide HB) (.cells #[.bool false, .int .i64 1, .int .i64 Xm, .int .u64 Sm] 37))
  have HP := hide ((unhide HP).below (below1 w3 (.cells #[.bool false, .int .i64 1, .int .i64 Xm, .int .u64 Sm] 37)))
  have HV := hide ((unhide HV).below (below1 w3 (.cells #[.bool false, .int .i64 1, .int .i64 Xm, .int .u64 Sm] 37)))
  have HX := hide ((unhide HX).below (below1 w3 (.cells #[.bool false, .int .i64 1, .int .i64 Xm, .int .u64 Sm] 37)))
  have HY := hide ((unhide HY).below (below1 w3 (.cells #[.bool false, .int .i64 1, .int .i64 Xm, .int .u64 Sm] 37)))
  have HA := hide ((unhide HA).below (below1 w3 (.cells #[.bool false, .int .i64 1, .int .i64 Xm, .int .u64 Sm] 37)))
  have HQ := hide (at4_new w3 (.bool false) (.int .i64 1) (.int .i64 Xm) (.int .u64 Sm) 37)
  obtain ⟨c0, c1, c2, c3⟩ := unhide HP
  obtain ⟨v0, v1, v2⟩ := unhide HV
  obtain ⟨l0, l1, l2, l3⟩ := unhide HA
  obtain ⟨q0, q1, q2, q3⟩ := unhide HQ
  go_wp2_with fail
  clear c0 c1 c2 c3 v0 v1 v2 l0 l1 l2 l3 q0 q1 q2 q3
  refine (unhide HU _ (unhide HX) (unhide HY)).mono ?_
  rintro _ w4 ⟨rfl, hb⟩
  have HB := hide (bthen (unhide HB) hb)
  have HP := hide ((unhide HP).below hb)
  have HV := hide ((unhide HV).below hb)
  have HX := hide ((unhide HX).below hb)
  have HY := hide ((unhide HY).below hb)
  have HA := hide ((unhide HA).below hb)
  have HQ := hide ((unhide HQ).below hb)
  clear hb
  skip
  obtain ⟨c0, c1, c2, c3⟩ := unhide HP
  obtain ⟨v0, v1, v2⟩ := unhide HV
  obtain ⟨l0, l1, l2, l3⟩ := unhide HA
  obtain ⟨q0, q1, q2, q3⟩ := unhide HQ
  go_wp2_with fail
  clear c0 c1 c2 c3 v0 v1 v2 l0 l1 l2 l3 q0 q1 q2 q3
  refine (unhide HD _ (unhide HX) (unhide HY)).mono ?_
  rintro _ w5 ⟨rfl, hb⟩
  have HB := hide (bthen (unhide HB) hb)
  have HP := hide ((unhide HP).below hb)
  have HV := hide ((unhide HV).below hb)
  have HX := hide ((unhide HX).below hb)
  have HY := hide ((unhide HY).below hb)
  have HA := hide ((unhide HA).below hb)
  have HQ := hide ((unhide HQ).below hb)
  clear hb
  skip
  obtain ⟨c0, c1, c2, c3⟩ := unhide HP
  obtain ⟨v0, v1, v2⟩ := unhide HV
  obtain ⟨l0, l1, l2, l3⟩ := unhide HA
  obtain ⟨q0, q1, q2, q3⟩ := unhide HQ
  go_wp2_with fail
  clear c0 c1 c2 c3 v0 v1 v2 l0 l1 l2 l3 q0 q1 q2 q3
  refine (unhide HF _).mono ?_
  rintro _ w6 ⟨rfl, hb⟩
  have HB := hide (bthen (unhide HB) hb)
  have HP := hide ((unhide HP).below hb)
  have HV := hide ((unhide HV).below hb)
  have HX := hide ((unhide HX).below hb)
  have HY := hide ((unhide HY).below hb)
  have HA := hide ((unhide HA).below hb)
  have HQ := hide ((unhide HQ).below hb)
  clear hb
  skip
  have HB := hide (unhide HB).drew
  have HP := hide ((unhide HP).below ((Below.refl _ _).drew))
  have HV := hide ((unhide HV).below ((Below.refl _ _).drew))
  have HX := hide ((unhide HX).below ((Below.refl _ _).drew))
  have HY := hide ((unhide HY).below ((Below.refl _ _).drew))
  have HA := hide ((unhide HA).below ((Below.refl _ _).drew))
  have HQ := hide ((unhide HQ).below ((Below.refl _ _).drew))
  have hsh : IntKind.u64.wrap (1 * 2 ^ 52) = 4503599627370496 := by decide
  rcases hd with ⟨bt, bx, hd⟩ | ⟨bt, hd⟩
  · have HE := HE bt bx
    obtain ⟨c0, c1, c2, c3⟩ := unhide HP
    obtain ⟨v0, v1, v2⟩ := unhide HV
    obtain ⟨l0, l1, l2, l3⟩ := unhide HA
    obtain ⟨q0, q1, q2, q3⟩ := unhide HQ
    go_wp2_with fail
    go_region
    go_wp2_with fail
    clear c0 c1 c2 c3 v0 v1 v2 l0 l1 l2 l3 q0 q1 q2 q3
    refine (unhide HE _ (unhide HX) (unhide HY)).mono ?_
    rintro _ w7 ⟨rfl, hb⟩
    have HB := hide (bthen (unhide HB) hb)
    have HP := hide ((unhide HP).below hb)
    have HV := hide ((unhide HV).below hb)
    have HX := hide ((unhide HX).below hb)
    have HY := hide ((unhide HY).below hb)
    have HA := hide ((unhide HA).below hb)
    have HQ := hide ((unhide HQ).below hb)
    clear hb
    skip
    have HB' := HB
    rcases hu with rfl | ⟨rfl, hev⟩
    all_goals
      rcases hd with rfl | ⟨rfl, hev'⟩
      all_goals
        obtain ⟨c0, c1, c2, c3⟩ := unhide HP
        obtain ⟨v0, v1, v2⟩ := unhide HV
        obtain ⟨l0, l1, l2, l3⟩ := unhide HA
        obtain ⟨q0, q1, q2, q3⟩ := unhide HQ
        go_wp2_with fail
        go_ret
        exact ⟨by first | rfl | simp, unhide HB'⟩
  · clear HE
    rcases bt with bt | ⟨bt, bx⟩
    · have HB' := HB
      rcases hu with rfl | ⟨rfl, hev⟩
      all_goals
        rcases hd with rfl | ⟨rfl, hev'⟩
        all_goals
          obtain ⟨c0, c1, c2, c3⟩ := unhide HP
          obtain ⟨v0, v1, v2⟩ := unhide HV
          obtain ⟨l0, l1, l2, l3⟩ := unhide HA
          obtain ⟨q0, q1, q2, q3⟩ := unhide HQ
          go_wp2_with fail
          go_region
          go_wp2_with fail
          go_ret
          exact ⟨by first | rfl | simp, unhide HB'⟩
    · have HB' := HB
      rcases hu with rfl | ⟨rfl, hev⟩
      all_goals
        rcases hd with rfl | ⟨rfl, hev'⟩
        all_goals
          obtain ⟨c0, c1, c2, c3⟩ := unhide HP
          obtain ⟨v0, v1, v2⟩ := unhide HV
          obtain ⟨l0, l1, l2, l3⟩ := unhide HA
          obtain ⟨q0, q1, q2, q3⟩ := unhide HQ
          go_wp2_with fail
          go_region
          go_wp2_with fail
          go_ret
          exact ⟨by first | rfl | simp, unhide HB'⟩
end Go.Proofs.YtpbgpdmffejdgaaGreatDoor
