/- WMul, WRoot. -/
import Derived.Test.YtpbgpdmffejdgaaGreatDoorS01
import Derived.Test.YtpbgpdmffejdgaaGreatDoorS07
import Derived.Test.YtpbgpdmffejdgaaGreatDoorS09
import Derived.LoopTactic
namespace Go.Proofs.YtpbgpdmffejdgaaGreatDoor.W
open Go.RowKit

set_option maxHeartbeats 1000000 in
theorem mul64_any (x y : Int) (w : World) (hx0 : 0 ≤ x) (hx : x < 18446744073709551616) (hy0 : 0 ≤ y) (hy : y < 18446744073709551616) :
    Calls Tryz.prog 264 #[.int .u64 x, .int .u64 y] w fun e w' => e = .returned (.tuple #[.int .u64 (x * y / 18446744073709551616), .int .u64 (x * y % 18446744073709551616)]) ∧ w' = w := by
  go_enter Tryz.func264, Tryz.ntmps264
  go_wp2
  go_ret2
  refine ⟨ret2 ?_ ?_, rfl⟩
  · simp only [IntKind.wrap_u64, Go.and_low32 x hx0 hx, Go.and_low32 y hy0 hy]
    rw [Go.and_low32 _ (by omega) (by omega)]
    exact Go.mul64_arith x y hx0 hx hy0 hy
  · exact IntKind.wrap_u64 _
set_option maxHeartbeats 400000 in
theorem mul_any (a b : Int) (w : World) (ha0 : 0 ≤ a) (ha : a < 18446744073709551616) (hb0 : 0 ≤ b) (hb : b < 18446744073709551616) :
    Calls Tryz.prog 236 #[.int .u64 a, .int .u64 b] w fun e w' => e = .returned (.agg #[.int .u64 (a * b / 18446744073709551616), .int .u64 (a * b % 18446744073709551616)]) ∧ Below w.heap.size w w' := by
  go_enter Tryz.func236, Tryz.ntmps236
  go_wp2_with (go_at_call 264; refine (mul64_any _ _ _ ha0 ha hb0 hb).mono ?_; rintro e w' ⟨rfl, rfl⟩)
  exact bodyPost_ret (v := .agg #[.int .u64 (a * b / 18446744073709551616), .int .u64 (a * b % 18446744073709551616)]) (by simp [results, Tryz.results236, go_sem]) rfl ⟨rfl, (Below.refl _ _).alloc (Nat.le_refl _) _⟩
theorem mul_n (a b : Int) (w : World) (ha0 : 0 ≤ a) (ha : a < 18446744073709551616) (hb0 : 0 ≤ b) (hb : b < 18446744073709551616) :
    Calls Tryz.prog 236 #[.int .u64 a, .int .u64 b] w fun e w' => e = .returned (.agg #[.int .u64 (hi (a.toNat * b.toNat)), .int .u64 (lo (a.toNat * b.toNat))]) ∧ Below w.heap.size w w' := by
  obtain ⟨x, rfl⟩ := Int.eq_ofNat_of_zero_le ha0
  obtain ⟨y, rfl⟩ := Int.eq_ofNat_of_zero_le hb0
  have h := mul_any x y w ha0 ha hb0 hb
  have e1 : hi ((x : Int).toNat * (y : Int).toNat) = (x : Int) * y / 18446744073709551616 := by unfold hi; rw [Int.toNat_natCast, Int.toNat_natCast, ← Int.natCast_mul]; omega
  have e2 : lo ((x : Int).toNat * (y : Int).toNat) = (x : Int) * y % 18446744073709551616 := by unfold lo; rw [Int.toNat_natCast, Int.toNat_natCast, ← Int.natCast_mul]; omega
  rw [e1, e2]
  exact h

end Go.Proofs.YtpbgpdmffejdgaaGreatDoor.W
namespace Go.Proofs.YtpbgpdmffejdgaaGreatDoor.W
open Go.RowKit

/-- What the search has found behind k of its 64 bits: a multiple of 2^(64-k). -/
def Found (v k r : Nat) : Prop := r * r ≤ v ∧ v < (r + 2 ^ (64 - k)) * (r + 2 ^ (64 - k)) ∧ r % 2 ^ (64 - k) = 0 ∧ r + 2 ^ (64 - k) ≤ 18446744073709551616

theorem found_0 (v : Nat) (hv : W2 v) : Found v 0 0 := ⟨by omega, by unfold W2 at hv; simpa using hv, by simp, by simp⟩
theorem pow_half (k : Nat) (h : k < 64) : 2 ^ (64 - k) = 2 * 2 ^ (63 - k) := by
  rw [show 64 - k = (63 - k) + 1 by omega, Nat.pow_succ, Nat.mul_comm]
theorem found_mod {v k r : Nat} (h : k < 64) (hF : Found v k r) : r % 2 ^ (63 - k) = 0 := by
  have h3 := hF.2.2.1
  rw [pow_half k h] at h3
  exact Nat.mod_eq_zero_of_dvd (Nat.dvd_trans ⟨2, Nat.mul_comm _ _⟩ (Nat.dvd_of_mod_eq_zero h3))
theorem found_yes {v k r : Nat} (h : k < 64) (hF : Found v k r) (hle : (r + 2 ^ (63 - k)) * (r + 2 ^ (63 - k)) ≤ v) : Found v (k + 1) (r + 2 ^ (63 - k)) := by
  have hm := found_mod h hF
  obtain ⟨h1, h2, h3, h4⟩ := hF
  unfold Found
  rw [show 64 - (k + 1) = 63 - k by omega]
  rw [pow_half k h] at h2 h4
  refine ⟨hle, ?_, ?_, by omega⟩
  · rw [show r + 2 ^ (63 - k) + 2 ^ (63 - k) = r + 2 * 2 ^ (63 - k) by omega]; exact h2
  · rw [Nat.add_mod_right]; exact hm
theorem found_no {v k r : Nat} (h : k < 64) (hF : Found v k r) (hle : ¬ (r + 2 ^ (63 - k)) * (r + 2 ^ (63 - k)) ≤ v) : Found v (k + 1) r := by
  have hm := found_mod h hF
  obtain ⟨h1, h2, h3, h4⟩ := hF
  unfold Found
  rw [show 64 - (k + 1) = 63 - k by omega]
  rw [pow_half k h] at h4
  exact ⟨h1, by omega, hm, by omega⟩
theorem found_or {v k r : Nat} (h : k < 64) (hF : Found v k r) : bits .or .u64 (r : Int) (IntKind.u64.wrap (2 ^ (63 - k))) = ((r + 2 ^ (63 - k) : Nat) : Int) := by
  obtain ⟨h1, h2, h3, h4⟩ := hF
  have hp := Nat.two_pow_pos (63 - k)
  have e : IntKind.u64.wrap (2 ^ (63 - k)) = ((2 ^ (63 - k) : Nat) : Int) := by
    have := shl_nat 1 (63 - k)
    rw [Nat.one_mul, Nat.mod_eq_of_lt (by rw [pow_half k h] at h4; omega)] at this
    simpa using this
  rw [pow_half k h] at h4
  rw [e]
  refine or_words _ _ _ (by omega) (by omega) (or_join (64 - k) _ _ h3 ?_)
  rw [pow_half k h]; omega
theorem found_lt {v k r : Nat} (h : k < 64) (hF : Found v k r) : r + 2 ^ (63 - k) < 18446744073709551616 := by
  obtain ⟨h1, h2, h3, h4⟩ := hF
  have hp := Nat.two_pow_pos (63 - k)
  rw [pow_half k h] at h4; omega

theorem mul_nat (x y : Nat) (w : World) (hx : x < 18446744073709551616) (hy : y < 18446744073709551616) :
    Calls Tryz.prog 236 #[.int .u64 (x : Int), .int .u64 (y : Int)] w fun e w' => e = .returned (.agg #[.int .u64 (hi (x * y)), .int .u64 (lo (x * y))]) ∧ Below w.heap.size w w' := by
  have h := mul_n x y w (by omega) (by omega) (by omega) (by omega)
  rw [Int.toNat_natCast, Int.toNat_natCast] at h
  exact h

theorem cmpN_le {v u : Nat} (h : v ≤ u) : cmpN v u ≤ 0 := by unfold cmpN; split; · omega
                                                             · rw [if_neg (by omega)]; omega
theorem cmpN_gt {v u : Nat} (h : ¬ v ≤ u) : 0 < cmpN v u := by unfold cmpN; rw [if_neg (by omega), if_pos (by omega)]; omega

theorem sq_word {r v : Nat} (hv : W2 v) (h : r * r ≤ v) : r < 18446744073709551616 := by
  unfold W2 at hv
  refine Decidable.byContradiction fun hn => ?_
  have := Nat.mul_le_mul (show 18446744073709551616 ≤ r by omega) (show 18446744073709551616 ≤ r by omega)
  omega

set_option maxHeartbeats 1000000 in
theorem root_n (v : Nat) (w : World) (hv : W2 v) :
    Calls Tryz.prog 159 #[.agg #[.int .u64 (hi v), .int .u64 (lo v)]] w fun e w' => ∃ r : Nat, e = .returned (.tuple #[.int .u64 (r : Int), .bool (decide (r * r ≠ v))]) ∧ r * r ≤ v ∧ v < (r + 1) * (r + 1) ∧ Below w.heap.size w w' := by
  go_enter Tryz.func159, Tryz.ntmps159
  go_wp2
  go_loopw [2, 6] (fun x i wr => ∃ r k : Nat, k ≤ 64 ∧ i = .int .i64 k ∧ x = .int .u64 r ∧ Found v k r ∧ Below (w.heap.size + 1) (w.alloc (.cells #[.int .u64 (hi v), .int .u64 (lo v)] 135)) wr) (fun _ i _ => 64 - (intOf i).toNat)
  case atStart => exact ⟨0, 0, by omega, rfl, rfl, found_0 v hv, Below.refl _ _⟩
  case round =>
    obtain ⟨r, k, hk, rfl, rfl, hF, hb⟩ := hrel
    have HF : Hid (Found v k r) := hF
    clear hF
    have q0 : wr.cell? ⟨w.heap.size, 0, none⟩ = some (.int .u64 (hi v)) := by rw [hb.cell (by simp)]; simp [go_sem]
    have q1 : wr.cell? ⟨w.heap.size, 1, none⟩ = some (.int .u64 (lo v)) := by rw [hb.cell (by simp)]; simp [go_sem]
    have hz : w.heap.size < wr.heap.size := by have := hb.size; simp at this; omega
    by_cases hlt : k < 64
    · have HN := hide (found_or hlt HF.out)
      have HL := hide (found_lt hlt HF.out)
      have HY := hide (fun hle => found_yes hlt HF.out hle)
      have HO := hide (fun hle => found_no hlt HF.out hle)
      generalize r + 2 ^ (63 - k) = nx at HN HL HY HO
      by_cases hle : nx * nx ≤ v
      · have ht := cmpN_le hle
        have HLE := hide hle
        clear hle
        go_wp2_with fail
        rw [unhide HN]
        go_region_held3 (fun w' => w'.cell? ⟨w.heap.size, 0, none⟩ = some (.int .u64 (hi v)) ∧ w'.cell? ⟨w.heap.size, 1, none⟩ = some (.int .u64 (lo v))) (first | exact keep2 hb3 (by first | assumption | (simp; omega)) ‹_› | exact keep2 hb2 (by first | assumption | (simp; omega)) ‹_› | (simp [go_sem, q0, q1]; done))
          (first | (go_at_call 236; refine (mul_nat nx nx _ (unhide HL) (unhide HL)).mono ?_; rintro e w2 ⟨rfl, hb2⟩; obtain ⟨hc2, hf2⟩ := bcell hb2; have hz2 : w.heap.size < w2.heap.size := by have := hb2.size; simp at this; omega) | (go_at_call 235; refine (cmp_n (nx * nx) v _).mono ?_; rintro e w3 ⟨rfl, hb3⟩; obtain ⟨hc3, hf3⟩ := bcell hb3))
        go_wp2
        go_roundw
        case rel => exact ⟨nx, k + 1, by omega, by go_num, rfl, unhide HY (unhide HLE), ((hb.drew).trans (hb2.mono (by simp; omega))).trans (hb3.mono (by omega))⟩
        case measure => simp [intOf]; omega
      · have ht := cmpN_gt hle
        have HLE := hide hle
        clear hle
        go_wp2_with fail
        rw [unhide HN]
        go_region_held3 (fun w' => w'.cell? ⟨w.heap.size, 0, none⟩ = some (.int .u64 (hi v)) ∧ w'.cell? ⟨w.heap.size, 1, none⟩ = some (.int .u64 (lo v))) (first | exact keep2 hb3 (by first | assumption | (simp; omega)) ‹_› | exact keep2 hb2 (by first | assumption | (simp; omega)) ‹_› | (simp [go_sem, q0, q1]; done))
          (first | (go_at_call 236; refine (mul_nat nx nx _ (unhide HL) (unhide HL)).mono ?_; rintro e w2 ⟨rfl, hb2⟩; obtain ⟨hc2, hf2⟩ := bcell hb2; have hz2 : w.heap.size < w2.heap.size := by have := hb2.size; simp at this; omega) | (go_at_call 235; refine (cmp_n (nx * nx) v _).mono ?_; rintro e w3 ⟨rfl, hb3⟩; obtain ⟨hc3, hf3⟩ := bcell hb3))
        go_wp2
        go_roundw
        case rel => exact ⟨r, k + 1, by omega, by go_num, rfl, unhide HO (unhide HLE), ((hb.drew).trans (hb2.mono (by simp; omega))).trans (hb3.mono (by omega))⟩
        case measure => simp [intOf]; omega
    · have hk64 : k = 64 := by omega
      subst hk64
      have HS := hide (show r * r ≤ v from HF.out.1)
      have HT := hide (show v < (r + 1) * (r + 1) by have := HF.out.2.1; simpa using this)
      have HL := hide (sq_word hv HF.out.1)
      obtain ⟨b, hbq, hq⟩ : ∃ b : Bool, decide (r * r ≠ v) = b ∧ ((hi (r * r) == hi v) = true ∧ (lo (r * r) == lo v) = true ∧ b = false ∨ (hi (r * r) == hi v) = true ∧ (lo (r * r) == lo v) = false ∧ b = true ∨ (hi (r * r) == hi v) = false ∧ b = true) := by
        by_cases h1 : hi (r * r) = hi v
        · by_cases h2 : lo (r * r) = lo v
          · exact ⟨false, by simp [words_inj h1 h2], Or.inl ⟨by simp [h1], by simp [h2], rfl⟩⟩
          · exact ⟨true, by simp; intro h; exact h2 (by rw [h]), Or.inr (Or.inl ⟨by simp [h1], by simp [h2], rfl⟩)⟩
        · exact ⟨true, by simp; intro h; exact h1 (by rw [h]), Or.inr (Or.inr ⟨by simp [h1], rfl⟩)⟩
      have HB := hide hbq
      clear hbq
      rcases hq with ⟨p1, p2, rfl⟩ | ⟨p1, p2, rfl⟩ | ⟨p1, rfl⟩
      all_goals
        go_wp2_with fail
        go_region_held3 (fun w' => w'.cell? ⟨w.heap.size, 0, none⟩ = some (.int .u64 (hi v)) ∧ w'.cell? ⟨w.heap.size, 1, none⟩ = some (.int .u64 (lo v))) (first | exact keep2 hb2 (by first | assumption | (simp; omega)) ‹_› | (simp [go_sem, q0, q1]; done))
          (first | (go_at_call 236; refine (mul_nat r r _ (unhide HL) (unhide HL)).mono ?_; rintro e w2 ⟨rfl, hb2⟩; obtain ⟨hc2, hf2⟩ := bcell hb2; have hz2 : w.heap.size < w2.heap.size := by have := hb2.size; simp at this; omega))
        go_wp2
        go_ret2
        exact ⟨r, by rw [unhide HB]; rfl, unhide HS, unhide HT, ((below1 _ _).trans (hb.mono (by omega))).drew.trans (hb2.mono (by simp; omega))⟩

end Go.Proofs.YtpbgpdmffejdgaaGreatDoor.W
