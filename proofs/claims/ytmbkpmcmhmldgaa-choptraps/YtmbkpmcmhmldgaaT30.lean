/- WhP, ChS. -/
import Derived.Test.YtmbkpmcmhmldgaaT01
import Derived.Test.YtmbkpmcmhmldgaaT24
import Derived.Test.YtmbkpmcmhmldgaaT25
import Derived.Test.YtmbkpmcmhmldgaaT26
import Derived.Test.YtmbkpmcmhmldgaaT27
import Derived.Test.YtmbkpmcmhmldgaaT28
import Derived.Test.YtmbkpmcmhmldgaaT29
namespace Go.Proofs.Ytmbkpmcmhmldgaa
open Go.RowKit
open Go.Proofs.Ytmbkpmcmhmldgaa.W

theorem refDown_any {w e f P Q b X S : Int} (k : Kd w e f P Q b) (n : Bool) (h : Prt f P Q b 1 X S) (W : World) :
    Calls Try.prog 19 #[.agg #[.bool n, .int .i64 1, .int .i64 X, .int .u64 S]] W fun e w' => ∃ s, e = .returned (.tuple #[.agg #[s], .int .i64 (wh (mag X S)), .bool (decide (wr (mag X S) ≠ 0))]) ∧ IsNat w' s (wq (mag X S)) ∧ Below W.heap.size W w' := by
  obtain ⟨x0, x1, s0, -, s2⟩ := h.in k
  by_cases hX : 0 ≤ X
  · obtain ⟨e1, e2, e3⟩ := low_up (S := S) hX
    have := down_up (K1 := 1) (X1 := X) (S1 := S) (n1 := n) W (hide ⟨s0, by omega, by omega⟩) hX
    rw [e1, e2, e3, show decide ((0 : Nat) ≠ 0) = false from rfl]
    exact this
  · obtain ⟨e1, -, e3⟩ := low_dn (-X).toNat (by omega) (X := X) (S := S) (by omega)
    have e2 := low_dn0 (-X).toNat (by omega) (X := X) (S := S) (by omega)
    have := down_dn (K1 := 1) (X1 := X) (S1 := S) (n1 := n) (-X).toNat W (hide ⟨s0, by omega, by omega⟩) hX (by rw [i64_id (by omega) (by omega)]; omega)
    rw [Nat.one_mul] at this
    rw [e1, e3]
    simp only [e2]
    exact this
end Go.Proofs.Ytmbkpmcmhmldgaa
namespace Go.Proofs.Ytmbkpmcmhmldgaa
open Go.RowKit
open Go.Proofs.Ytmbkpmcmhmldgaa.W

theorem caw_1 : trN 52 4503599627370496 2048 1023 (8388608 * 256) false 13829653735729319117 = 0 ∧ tvN 52 4503599627370496 2048 1023 (8388608 * 256) false 13829653735729319117 = 0 := by decide +kernel
theorem caw_2 : trN 52 4503599627370496 2048 1023 (8388608 * 256) false 13840687554816376832 = 3 ∧ tvN 52 4503599627370496 2048 1023 (8388608 * 256) false 13840687554816376832 = 0 ∧ vaN 52 4503599627370496 2048 1023 (8388608 * 256) false 13840687554816376832 = 0 := by decide +kernel
theorem caw_3 : vaN 52 4503599627370496 2048 1023 (8388608 * 256) true 4617315517961601024 = 5 := by decide +kernel
theorem awake_any : Ct 5 #[] (.bool true) := by
  have h1 := trap_any kd_64 kd_32 false (x := 13829653735729319117) (by omega) (by omega)
  have h2 := trap_any kd_64 kd_32 false (x := 13840687554816376832) (by omega) (by omega)
  have h3 := sat_any kd_64 kd_32 false (x := 13840687554816376832) (by omega) (by omega)
  have h4 := sat_any kd_64 kd_32 true (x := 4617315517961601024) (by omega) (by omega)
  rw [caw_1.1, caw_1.2] at h1
  rw [caw_2.1, caw_2.2.1] at h2
  rw [caw_2.2.2] at h3
  rw [caw_3] at h4
  exact hide (fun W => awake_l W h1 h2 h3 h4)

/-- What became of a float, and its number. -/
def chO (H : Int) (s n : Bool) (K : Int) (z : Nat) : Int := if K = 3 then 1 else if K ≠ 2 ∧ (z : Int) ≤ endE H s n then 0 else if n then 2 else 3
def chR (H : Int) (s n : Bool) (K : Int) (z : Nat) : Int := if chO H s n K z = 0 then sgd H n z else 0
theorem two_half {k e f P Q b : Int} (kk : Kd k e f P Q b) : IntKind.i64.wrap (k - 1) = k - 1 ∧ Ct 16 #[.int .i64 (k - 1)] (.int .u64 (P * Q)) := by
  rcases kd_half kk with ⟨rfl, h⟩ | ⟨rfl, h⟩ <;> rw [h]
  · exact ⟨by decide, hide (fun W => two_any 31 2147483648 W (by omega) (by omega) (by decide +kernel))⟩
  · exact ⟨by decide, hide (fun W => two_any 63 9223372036854775808 W (by omega) (by omega) (by decide +kernel))⟩
theorem low_any {k e f P Q b : Int} (kk : Kd k e f P Q b) (s : Bool) : Ct 10 #[.int .i64 k, .bool s] (.int .u64 (lowE (P * Q) s)) := by
  obtain ⟨h1, HT⟩ := two_half kk
  cases s
  · exact hide (fun W => low_f W)
  · exact hide (fun W => low_t W h1 HT)
theorem high_any {k e f P Q b : Int} (kk : Kd k e f P Q b) (s : Bool) : Ct 11 #[.int .i64 k, .bool s] (.int .u64 (highE (P * Q) s)) := by
  obtain ⟨h1, HT⟩ := two_half kk
  have hk := kd_half kk
  generalize P * Q = H at *
  have e1 : IntKind.u64.wrap (H - 1) = H - 1 := by rw [IntKind.wrap_u64]; omega
  cases s
  · exact hide (fun W => high_f W h1 HT e1 (by show IntKind.u64.wrap (H - 1 + H) = 2 * H - 1; rw [IntKind.wrap_u64]; omega))
  · exact hide (fun W => high_t W h1 HT e1)
theorem cmp_over {z : Nat} {L : Int} (L0 : 0 ≤ L) : decide (0 < cmpN z L.toNat) = !decide ((z : Int) ≤ L) := by
  unfold cmpN
  by_cases h : (z : Int) ≤ L
  · rw [dt h]
    split <;> (try split) <;> first | rfl | omega
  · rw [df h, if_neg (by omega), if_pos (by omega)]
    rfl
theorem chO_gt {H K : Int} {s n : Bool} {z : Nat} (h3 : K ≠ 3) (h : K = 2 ∨ ¬ (z : Int) ≤ endE H s n) : chO H s n K z = (if n then 2 else 3) ∧ chR H s n K z = 0 := by
  have e : chO H s n K z = (if n then 2 else 3) := by
    unfold chO
    rw [if_neg h3, if_neg (fun g => h.elim g.1 (fun q => q g.2))]
  refine ⟨e, ?_⟩
  unfold chR
  rw [e]
  cases n <;> rfl
theorem chO_le {H K : Int} {s n : Bool} {z : Nat} (h3 : K ≠ 3) (h2 : K ≠ 2) (h : (z : Int) ≤ endE H s n) : chO H s n K z = 0 ∧ chR H s n K z = sgd H n z := by
  have e : chO H s n K z = 0 := by
    unfold chO
    rw [if_neg h3, if_pos ⟨h2, h⟩]
  refine ⟨e, ?_⟩
  unfold chR
  rw [if_pos e]
theorem lo_word {z : Nat} {L : Int} (h : (z : Int) ≤ L) (L1 : L < 18446744073709551616) : lo z = (z : Int) := by unfold lo; omega
/-- The answer of the reference's Chop, by a float's parts. -/
theorem rchop_parts {w k e' f' P' Q' b' e f P Q b x X S K : Int} {n : Bool} (kw : Kd w e f P Q b) (kk : Kd k e' f' P' Q' b') (s : Bool) (h : Prt f P Q b K X S) (HO : Ct 17 #[.int .i64 w, .int .u64 x] (.agg #[.bool n, .int .i64 K, .int .i64 X, .int .u64 S])) :
    Ct 12 #[.int .i64 w, .int .i64 k, .int .u64 x, .bool s] (.tuple #[.int .i64 (chO (P' * Q') s n K (wq (mag X S))), .int .u64 (chR (P' * Q') s n K (wq (mag X S)))]) := by
  have HL := low_any kk s
  have HH := high_any kk s
  obtain ⟨e0, e1⟩ := ends_in kk s n
  have hH := kd_half kk
  have hK : K = 0 ∨ K = 1 ∨ K = 2 ∨ K = 3 := by unfold Prt at h; omega
  have HC : ∀ y : Int, 0 ≤ y → y < 18446744073709551616 → Ct 22 #[.int .i64 k, .int .u64 y] (.int .u64 (y % (2 * (P' * Q')))) := fun y y0 y1 => by
    have := fun W => refCut_any y kk W y0 y1
    rw [cut_kd kk] at this
    exact hide this
  rcases hK with rfl | rfl | rfl | rfl
  · rw [h.mag0 (by decide), wq_zero]
    obtain ⟨q1, q2⟩ := chO_le (H := P' * Q') (s := s) (n := n) (z := 0) (show (0 : Int) ≠ 3 by decide) (by decide) e0
    have hz := HC 0 (by omega) (by omega)
    rw [Int.zero_emod] at hz
    have hs : sgd (P' * Q') n ((0 : Nat) : Int) = 0 := by
      unfold sgd
      cases n <;> simp
    have hg := cmp_over (z := 0) e0
    rw [dt (show ((0 : Nat) : Int) ≤ endE (P' * Q') s n from e0)] at hg
    rw [q1, q2, hs]
    cases n
    · exact hide (fun W => rchop_zero_f W HO HH e0 e1 hg rfl hz)
    · exact hide (fun W => rchop_zero_t W HO HL e0 e1 hg rfl (by decide) hz)
  · have HD := hide (fun W => refDown_any kw n h W)
    have hg := cmp_over (z := wq (mag X S)) e0
    generalize wq (mag X S) = z at *
    by_cases hz : (z : Int) ≤ endE (P' * Q') s n
    · obtain ⟨q1, q2⟩ := chO_le (H := P' * Q') (s := s) (n := n) (z := z) (show (1 : Int) ≠ 3 by decide) (by decide) hz
      rw [dt hz] at hg
      have hl := lo_word hz e1
      rw [q1, q2]
      cases n
      · have hc := HC (z : Int) (by omega) (by omega)
        rw [Int.emod_eq_of_lt (by omega) (by have hh : endE (P' * Q') s false ≤ 2 * (P' * Q') - 1 := (by cases s; exact Int.le_refl _; show P' * Q' - 1 ≤ _; omega); omega)] at hc
        exact hide (fun W => rchop_le_f W HO HD HH e0 e1 hg hl hc)
      · by_cases h0 : z = 0
        · subst h0
          have hc := HC 0 (by omega) (by omega)
          rw [Int.zero_emod] at hc
          rw [show sgd (P' * Q') true ((0 : Nat) : Int) = 0 by unfold sgd; simp]
          exact hide (fun W => rchop_z_t W HO HD HL e0 e1 hg rfl (by decide) hc)
        · have y1 : IntKind.u64.wrap (18446744073709551615 - (z : Int)) = 18446744073709551615 - (z : Int) := by rw [IntKind.wrap_u64]; omega
          have y2 : IntKind.u64.wrap (18446744073709551615 - (z : Int) + 1) = 18446744073709551616 - (z : Int) := by rw [IntKind.wrap_u64]; omega
          have hc := HC (18446744073709551616 - (z : Int)) (by omega) (by omega)
          have e2 : (18446744073709551616 - (z : Int)) % (2 * (P' * Q')) = sgd (P' * Q') true (z : Int) := by
            show _ = -(z : Int) % (2 * (P' * Q'))
            rcases hH with ⟨-, h⟩ | ⟨-, h⟩ <;> rw [h] <;> omega
          rw [e2] at hc
          exact hide (fun W => rchop_p_t W HO HD HL e0 e1 hg hl (by omega) y1 y2 hc)
    · obtain ⟨q1, q2⟩ := chO_gt (H := P' * Q') (s := s) (n := n) (z := z) (show (1 : Int) ≠ 3 by decide) (Or.inr hz)
      rw [df hz] at hg
      rw [q1, q2]
      cases n
      · exact hide (fun W => rchop_gt_f W HO HD HH e0 e1 hg)
      · exact hide (fun W => rchop_gt_t W HO HD HL e0 e1 hg)
  · obtain ⟨q1, q2⟩ := chO_gt (H := P' * Q') (s := s) (n := n) (z := wq (mag X S)) (show (2 : Int) ≠ 3 by decide) (Or.inl rfl)
    rw [q1, q2]
    cases n
    · exact hide (fun W => rchop_inf_f W HO)
    · exact hide (fun W => rchop_inf_t W HO)
  · have q1 : chO (P' * Q') s n 3 (wq (mag X S)) = 1 := by unfold chO; rw [if_pos rfl]
    have q2 : chR (P' * Q') s n 3 (wq (mag X S)) = 0 := by unfold chR; rw [q1]; rfl
    rw [q1, q2]
    cases n
    · exact hide (fun W => rchop_nan_f W HO)
    · exact hide (fun W => rchop_nan_t W HO)
theorem rchop_any {w e f P Q b k e' f' P' Q' b' x : Int} (kw : Kd w e f P Q b) (kk : Kd k e' f' P' Q' b') (s : Bool) (x0 : 0 ≤ x) (x1 : x < 18446744073709551616) :
    Ct 12 #[.int .i64 w, .int .i64 k, .int .u64 x, .bool s] (.tuple #[.int .i64 (chO (P' * Q') s (oN P Q x) (oK P Q x) (wq (oM f P Q b x))), .int .u64 (chR (P' * Q') s (oN P Q x) (oK P Q x) (wq (oM f P Q b x)))]) := by
  obtain ⟨X, S, ho, hp, hm⟩ := open_kd kw x
  have := rchop_parts kw kk s hp (hide (fun W => refOpen_any x kw W x0 x1 ho))
  rw [hm] at this
  exact this
end Go.Proofs.Ytmbkpmcmhmldgaa
