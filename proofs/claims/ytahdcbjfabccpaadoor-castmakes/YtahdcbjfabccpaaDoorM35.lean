/- ExactX, RefT, CsM, CsC, CsE, LawM, Laid. -/
import Derived.Test.YtahdcbjfabccpaaDoorM13
import Derived.Test.YtahdcbjfabccpaaDoorM14
import Derived.Test.YtahdcbjfabccpaaDoorM17
import Derived.Test.YtahdcbjfabccpaaDoorM23
import Derived.Test.YtahdcbjfabccpaaDoorM28
import Derived.Test.YtahdcbjfabccpaaDoorM34
import Derived.Test.YtahdcbjfabccpaaDoorTie
import Derived.ProofKit
import Derived.LaidMore
import Derived.OpenShut
import Derived.Stop.Joined
import Derived.Lib.SmallJoins
namespace Go.Proofs.YtahdcbjfabccpaaDoor
open Go.RowKit
open Go.Proofs.YtahdcbjfabccpaaDoor.W

/-- What the document's Exact is of x times 2^k. -/
def exactN (f P Q b : Int) (n : Bool) (x : Nat) (k : Int) : Int :=
  if x = 0 ∨ k < -4000 then put f P Q n 0 0 else if 4000 < k then put f P Q n (Q - 1) 0 else fl f P Q n (lid P Q (code f.toNat (lowN f b) (x * 2 ^ (k + 5000).toNat) : Nat))

theorem exact_any {w e f P Q b k : Int} {n : Bool} (kd : Kd w e f P Q b) (x : Nat) (h140 : x < pw 140) (a : Option Addr) (na ca : Nat) (W : World) (hx : IsNat W (.slice a na ca) x) :
    Calls Tryd.prog 24 #[.int .i64 w, .bool n, .agg #[.slice a na ca], .int .i64 k] W fun r W' => r = .returned (.int .u64 (exactN f P Q b n x k)) ∧ Below W.heap.size W W' := by
  obtain ⟨p1, p2, q1, q2⟩ := kd.pos
  have HM := hide (fun W => make_any n 0 0 kd W (by omega) (by omega) (by omega) (by omega))
  have hp := hx.pos
  unfold exactN
  by_cases h0 : x = 0
  · rw [if_pos (Or.inl h0)]
    have : ¬ 0 < na := by rw [hp]; exact fun h => h h0
    exact exact_z a na ca W (eq_t (by omega)) HM
  · have hz : ((na : Int) == 0) = false := eq_f (by have : 0 < na := (by rw [hp]; exact h0); omega)
    by_cases h1 : k < -4000
    · rw [if_pos (Or.inr h1)]
      exact exact_l a na ca W hz (dt h1) HM
    · rw [if_neg (fun h => h.elim h0 h1)]
      by_cases h2 : 4000 < k
      · rw [if_pos h2]
        exact exact_h a na ca W hz (df h1) (dt h2) (hide (fun W => refInf_any n kd W))
      · rw [if_neg h2]
        exact exact_n a na ca x W hx hz (df h1) (df h2) (hide (fun b' nb cb W ha hb => near_known kd a b' na ca nb cb x W ha hb h0 (by omega) (by omega) h140))

end Go.Proofs.YtahdcbjfabccpaaDoor
namespace Go.Proofs.YtahdcbjfabccpaaDoor
open Go.RowKit
open Go.Proofs.YtahdcbjfabccpaaDoor.W

theorem exact_rd {w e f P Q b low : Int} (k : Kd w e f P Q b) (n : Bool) (z : Nat) (h0 : -1200 ≤ low) (h1 : low ≤ 1100) : exactN f P Q b n z low = rd f P Q b n (z * 2 ^ (low + 5000).toNat) := by
  unfold exactN
  by_cases hz : z = 0
  · rw [if_pos (Or.inl hz), hz, Nat.zero_mul, rd_zero k]
  · rw [if_neg (by omega), if_neg (by omega)]
    rfl
theorem ex_at {w e f P Q b low : Int} (k : Kd w e f P Q b) (n : Bool) (z M : Nat) (hz : z < pw 140) (h0 : -1200 ≤ low) (h1 : low ≤ 1100) (hM : z * 2 ^ (low + 5000).toNat = M) :
    Hid (∀ (a : Option Addr) (m c : Nat) (W : World), IsNat W (.slice a m c) z → Calls Tryd.prog 24 #[.int .i64 w, .bool n, .agg #[.slice a m c], .int .i64 low] W fun r W' => r = .returned (.int .u64 (rd f P Q b n M)) ∧ Below W.heap.size W W') := by
  refine hide (fun a m c W hx => ?_)
  have := exact_any (n := n) (k := low) k z hz a m c W hx
  rw [exact_rd k n z h0 h1, hM] at this
  exact this

end Go.Proofs.YtahdcbjfabccpaaDoor
namespace Go.Proofs.YtahdcbjfabccpaaDoor
open Go.RowKit
open Go.Proofs.YtahdcbjfabccpaaDoor.W

/-- How far up a number lies. -/
def Z5 : Nat := 5000
theorem Z5_at : ((0 : Int) + 5000).toNat = Z5 := rfl
/-- A whole number's sign: H is half of what there is room for. -/
def ngs (H : Int) (s : Bool) (x : Int) : Bool := s && decide (H ≤ x % (2 * H))
/-- A whole number's amount. -/
def amt (H : Int) (s : Bool) (x : Int) : Int := if ngs H s x = true then 2 * H - x % (2 * H) else x % (2 * H)
/-- The float that is nearest to it. -/
def makC (f P Q b H : Int) (s : Bool) (x : Int) : Int := rd f P Q b (ngs H s x) ((amt H s x).toNat * 2 ^ Z5)
/-- The float that is nearest to a float of another width. -/
def turnB (f P Q b : Int) (n : Bool) (K : Int) (M : Nat) : Int := if K = 3 then nanB f P Q else if K = 2 then put f P Q n (Q - 1) 0 else rd f P Q b n M

theorem ngs_f (H x : Int) : ngs H false x = false := rfl
theorem amt_f (H x : Int) : amt H false x = x % (2 * H) := by unfold amt; rw [ngs_f, if_neg (by decide)]
theorem ngs_t {H x : Int} (h : H ≤ x % (2 * H)) : ngs H true x = true := by unfold ngs; simpa using h
theorem ngs_p {H x : Int} (h : ¬ H ≤ x % (2 * H)) : ngs H true x = false := by unfold ngs; simpa using h
theorem amt_t {H x : Int} (h : H ≤ x % (2 * H)) : amt H true x = 2 * H - x % (2 * H) := by unfold amt; rw [ngs_t h, if_pos rfl]
theorem amt_p {H x : Int} (h : ¬ H ≤ x % (2 * H)) : amt H true x = x % (2 * H) := by unfold amt; rw [ngs_p h, if_neg (by decide)]
/-- What half of a width's room is. -/
theorem kd_half {w e f P Q b : Int} (k : Kd w e f P Q b) : (w = 32 ∧ P * Q = 2147483648) ∨ (w = 64 ∧ P * Q = 9223372036854775808) := by
  rcases k with ⟨rfl, -, -, rfl, rfl, -⟩ | ⟨rfl, -, -, rfl, rfl, -⟩
  · exact Or.inl ⟨rfl, rfl⟩
  · exact Or.inr ⟨rfl, rfl⟩
theorem amt_in {w e f P Q b : Int} (k : Kd w e f P Q b) (s : Bool) (x : Int) : 0 ≤ amt (P * Q) s x ∧ amt (P * Q) s x < 18446744073709551616 ∧ (ngs (P * Q) s x = true → amt (P * Q) s x ≠ 0) := by
  have hk := kd_half k
  generalize P * Q = H at *
  have hm : 0 ≤ x % (2 * H) ∧ x % (2 * H) < 2 * H := ⟨Int.emod_nonneg _ (by omega), Int.emod_lt_of_pos _ (by omega)⟩
  cases s
  · rw [amt_f, ngs_f]
    exact ⟨hm.1, by omega, fun h => by cases h⟩
  · by_cases h : H ≤ x % (2 * H)
    · rw [amt_t h]
      exact ⟨by omega, by omega, fun _ => by omega⟩
    · rw [amt_p h, ngs_p h]
      exact ⟨hm.1, by omega, fun h => by cases h⟩

theorem low_le {w e f P Q b : Int} (k : Kd w e f P Q b) : lowN f b ≤ Z5 := by
  rcases k with ⟨-, -, rfl, -, -, rfl⟩ | ⟨-, -, rfl, -, -, rfl⟩ <;> decide +kernel
theorem put_f0 {f P Q : Int} : put f P Q false 0 0 = 0 := by unfold put; split <;> simp

theorem pow_same {a b c d : Nat} (h : a + b = c + d) : 2 ^ a * 2 ^ b = 2 ^ c * 2 ^ d := by rw [← Nat.pow_add, ← Nat.pow_add, h]
theorem fl_parts {w e f P Q b : Int} (k : Kd w e f P Q b) (n : Bool) {c : Nat} (hc : (c : Int) < top P Q) :
    0 ≤ fl f P Q n c ∧ fl f P Q n c < 18446744073709551616 ∧ oc P Q (fl f P Q n c) = c ∧ oN P Q (fl f P Q n c) = n ∧ oK P Q (fl f P Q n c) ≠ 3 ∧ oK P Q (fl f P Q n c) ≠ 2 ∧ oM f P Q b (fl f P Q n c) = fval f.toNat (lowN f b) c := by
  obtain ⟨h0, h1, h2, h3, h4, h5⟩ := fl_facts k n (c := (c : Int)) (by omega) (by omega)
  have hoc : oc P Q (fl f P Q n c) = c := by omega
  have hK : oK P Q (fl f P Q n c) ≠ 3 ∧ oK P Q (fl f P Q n c) ≠ 2 := by
    rcases kind_oc k (fl f P Q n c) with ⟨-, g, -⟩ | ⟨-, g, -⟩ | ⟨g, -, -, -⟩ | ⟨g, -, -⟩
    · exfalso; omega
    · exfalso; omega
    · omega
    · omega
  refine ⟨h0, h1, hoc, h3, hK.1, hK.2, ?_⟩
  rw [(oM_fin k hK).1, hoc]
/-- A whole number that is a float. -/
theorem whole_code {w e f P Q b : Int} (k : Kd w e f P Q b) (m : Nat) (hm : m < 2 ^ (f.toNat + 1)) :
    ∃ c : Nat, fval f.toNat (lowN f b) c = m * 2 ^ Z5 ∧ (c : Int) < top P Q ∧ ∀ n, rd f P Q b n (m * 2 ^ Z5) = fl f P Q n c := by
  have hp := Nat.two_pow_pos f.toNat
  have h2 : 2 ^ (f.toNat + 1) = 2 ^ f.toNat * 2 := Nat.pow_succ _ _
  have h3 : 2 ^ f.toNat * 2 ^ (Z5 + 1) = 2 ^ (f.toNat + 1) * 2 ^ Z5 := pow_same (by omega)
  have hL := low_le k
  obtain ⟨c, hc⟩ := rep_k (f := f.toNat) (L := lowN f b) (s := m) (k := Z5) (by omega) hL
  have hd := fval_norm f.toNat (lowN f b) (2 ^ f.toNat) (Z5 + 1) (by omega) (by omega) (fun _ => Nat.le_refl _)
  have hle : c ≤ (Z5 + 1 - lowN f b) * 2 ^ f.toNat + 2 ^ f.toNat := by
    refine (fval_le (f := f.toNat) (L := lowN f b)).mp ?_
    rw [← hc, hd, h3]
    exact Nat.mul_le_mul_right _ (Nat.le_of_lt hm)
  have ht : (((Z5 + 1 - lowN f b) * 2 ^ f.toNat + 2 ^ f.toNat : Nat) : Int) < top P Q := by
    clear hle hd h3 hc hm hp h2 hL
    rcases k with ⟨-, -, rfl, rfl, rfl, rfl⟩ | ⟨-, -, rfl, rfl, rfl, rfl⟩ <;> decide +kernel
  have hlt : (c : Int) < top P Q := by omega
  refine ⟨c, hc.symm, hlt, fun n => ?_⟩
  rw [hc]
  exact rd_val k n hlt
/-- The float of any whole number of 64 bits isn't the infinite one. -/
theorem word_code {w e f P Q b : Int} (k : Kd w e f P Q b) (m : Nat) (hm : m < 18446744073709551616) : ((code f.toNat (lowN f b) (m * 2 ^ Z5) : Nat) : Int) < top P Q := by
  have hf : f.toNat ≤ 52 := by rcases k with ⟨-, -, rfl, -⟩ | ⟨-, -, rfl, -⟩ <;> decide
  have hL := low_le k
  have h2 : 2 ^ (f.toNat + 1) = 2 ^ f.toNat * 2 := Nat.pow_succ _ _
  have hp := Nat.two_pow_pos f.toNat
  have hc := code_exact f.toNat (lowN f b) (2 ^ f.toNat) (Z5 + (64 - f.toNat)) (by omega) (by omega) (fun _ => Nat.le_refl _)
  rw [pow_same (show f.toNat + (Z5 + (64 - f.toNat)) = 64 + Z5 by omega)] at hc
  have hle := code_mono f.toNat (lowN f b) (Nat.mul_le_mul_right (2 ^ Z5) (show m ≤ 2 ^ 64 by omega))
  rw [hc] at hle
  have ht : (((Z5 + (64 - f.toNat) - lowN f b) * 2 ^ f.toNat + 2 ^ f.toNat : Nat) : Int) < top P Q := by
    clear hle hc hm hp h2 hL hf
    rcases k with ⟨-, -, rfl, rfl, rfl, rfl⟩ | ⟨-, -, rfl, rfl, rfl, rfl⟩ <;> decide +kernel
  omega
theorem word_rd {w e f P Q b : Int} (k : Kd w e f P Q b) (n : Bool) (m : Nat) (hm : m < 18446744073709551616) : rd f P Q b n (m * 2 ^ Z5) = fl f P Q n (code f.toNat (lowN f b) (m * 2 ^ Z5) : Nat) := by
  have h := word_code k m hm
  unfold rd lid
  unfold top at h
  rw [if_neg (by omega)]
end Go.Proofs.YtahdcbjfabccpaaDoor
namespace Go.Proofs.YtahdcbjfabccpaaDoor
open Go.RowKit
open Go.Proofs.YtahdcbjfabccpaaDoor.W

theorem i32_low (x : Int) : IntKind.i32.wrap x = if 2147483648 ≤ x % 4294967296 then x % 4294967296 - 4294967296 else x % 4294967296 := by
  simp only [IntKind.wrap, IntKind.bits, IntKind.signed]
  simp
theorem i64_low (x : Int) : IntKind.i64.wrap x = if 9223372036854775808 ≤ x % 18446744073709551616 then x % 18446744073709551616 - 18446744073709551616 else x % 18446744073709551616 := by
  simp only [IntKind.wrap, IntKind.bits, IntKind.signed]
  simp
theorem u32_low (x : Int) : IntKind.u32.wrap x = x % 4294967296 := by
  simp only [IntKind.wrap, IntKind.bits, IntKind.signed]
  simp
theorem number_any {k e f P Q b x : Int} (kd : Kd k e f P Q b) (s : Bool) (x0 : 0 ≤ x) (x1 : x < 18446744073709551616) : Ct 19 #[.int .i64 k, .int .u64 x, .bool s] (.tuple #[.bool (ngs (P * Q) s x), .int .u64 (amt (P * Q) s x)]) := by
  rcases kd_half kd with ⟨rfl, h⟩ | ⟨rfl, h⟩ <;> rw [h] <;> clear h kd
  · cases s
    · rw [ngs_f, amt_f]
      exact hide (fun W => number_32_f W (u32_low x) (hide (fun W => split_u32_p W (by omega) (by rw [IntKind.wrap_u64]; omega))))
    · by_cases g : 2147483648 ≤ x % (2 * 2147483648)
      · rw [ngs_t g, amt_t g]
        exact hide (fun W => number_32_t W (y := x % 4294967296 - 4294967296) (by rw [i32_low, if_pos (by omega)]) (hide (fun W => split_i32_n W (by omega) rfl (by rw [IntKind.wrap_u64, IntKind.wrap_u64]; omega))))
      · rw [ngs_p g, amt_p g]
        exact hide (fun W => number_32_t W (y := x % 4294967296) (by rw [i32_low, if_neg (by omega)]) (hide (fun W => split_i32_p W (by omega) (by rw [IntKind.wrap_u64]; omega))))
  · cases s
    · rw [ngs_f, amt_f, show x % (2 * 9223372036854775808) = x by omega]
      exact hide (fun W => number_64_f W (hide (fun W => split_u64_p W (by omega))))
    · by_cases g : 9223372036854775808 ≤ x % (2 * 9223372036854775808)
      · rw [ngs_t g, amt_t g]
        exact hide (fun W => number_64_t W (y := x % 18446744073709551616 - 18446744073709551616) (by rw [i64_low, if_pos (by omega)]) (hide (fun W => split_i64_n W (by omega) rfl (by rw [IntKind.wrap_u64, IntKind.wrap_u64]; omega))))
      · rw [ngs_p g, amt_p g]
        exact hide (fun W => number_64_t W (y := x % 18446744073709551616) (by rw [i64_low, if_neg (by omega)]) (hide (fun W => split_i64_p W (by omega) (by rw [IntKind.wrap_u64]; omega))))
theorem number_ex {k e f P Q b x : Int} (h : Wd k e f P Q b) (s : Bool) (x0 : 0 ≤ x) (x1 : x < 18446744073709551616) : ∃ m a, 0 ≤ a ∧ a < 18446744073709551616 ∧ (m = true → a ≠ 0) ∧ (f = 0 → m = false ∧ a = 0) ∧ Ct 19 #[.int .i64 k, .int .u64 x, .bool s] (.tuple #[.bool m, .int .u64 a]) := by
  by_cases hf : f = 0
  · have hw : k ≠ 32 ∧ k ≠ 64 := by rcases h with h | h | h <;> omega
    exact ⟨false, 0, by omega, by omega, fun h => absurd h (by decide), fun _ => ⟨rfl, rfl⟩, hide (fun W => number_no W (eq_f hw.1) (eq_f hw.2))⟩
  · have kd := h.known hf
    obtain ⟨a0, a1, a2⟩ := amt_in kd s x
    exact ⟨_, _, a0, a1, a2, fun h => absurd h hf, number_any kd s x0 x1⟩

theorem whole_any {w e f P Q b a : Int} (k : Kd w e f P Q b) (n : Bool) (a0 : 0 ≤ a) (a1 : a < 18446744073709551616) (hn : n = true → a ≠ 0) : Ct 37 #[.int .i64 w, .bool n, .int .u64 a] (.int .u64 (rd f P Q b n (a.toNat * 2 ^ Z5))) := by
  have hp := fun W => pack_at (E := 0) k n a.toNat (small_w2 a0 a1) (by omega) (by omega) W
  rw [Z5_at] at hp
  cases n
  · exact hide (fun W => whole_f W (hide (fun W => of_n a W a0 a1)) (hide hp))
  · exact hide (fun W => whole_t W (nb := true) (ne_t (hn rfl)) (hide (fun W => of_n a W a0 a1)) (hide hp))
theorem whole_no {w e f P Q b a : Int} (k : Wd w e f P Q b) (hf : f = 0) (n : Bool) (a0 : 0 ≤ a) (a1 : a < 18446744073709551616) (hn : n = true → a ≠ 0) : Ct 37 #[.int .i64 w, .bool n, .int .u64 a] (.int .u64 0) := by
  have hp := fun W => pack_no a.toNat n false 0 k hf (small_w2 a0 a1) W
  cases n
  · exact hide (fun W => whole_f W (hide (fun W => of_n a W a0 a1)) (hide hp))
  · exact hide (fun W => whole_t W (nb := true) (ne_t (hn rfl)) (hide (fun W => of_n a W a0 a1)) (hide hp))

theorem nought_up (A : Nat) : (0 : Int).toNat * A = 0 := by simp
theorem from_any {w e f P Q b k e' f' P' Q' b' x : Int} (kw : Kd w e f P Q b) (kk : Kd k e' f' P' Q' b') (s : Bool) (x0 : 0 ≤ x) (x1 : x < 18446744073709551616) : Ct 17 #[.int .i64 w, .int .i64 k, .int .u64 x, .bool s] (.int .u64 (makC f P Q b (P' * Q') s x)) := by
  obtain ⟨a0, a1, a2⟩ := amt_in kk s x
  exact hide (fun W => nearest_l W (number_any kk s x0 x1) (whole_any kw _ a0 a1 a2))
theorem from_no {w e f P Q b k e' f' P' Q' b' x : Int} (kw : Wd w e f P Q b) (kk : Wd k e' f' P' Q' b') (h : f = 0 ∨ f' = 0) (s : Bool) (x0 : 0 ≤ x) (x1 : x < 18446744073709551616) : Ct 17 #[.int .i64 w, .int .i64 k, .int .u64 x, .bool s] (.int .u64 0) := by
  obtain ⟨m, a, a0, a1, a2, a3, HN⟩ := number_ex kk s x0 x1
  by_cases hf : f = 0
  · exact hide (fun W => nearest_l W HN (whole_no kw hf m a0 a1 a2))
  · obtain ⟨rfl, rfl⟩ := a3 (h.resolve_left hf)
    have kd := kw.known hf
    have hw := whole_any kd false a0 a1 a2
    rw [nought_up, rd_zero kd, put_f0] at hw
    exact hide (fun W => nearest_l W HN hw)
theorem fromU_any {w e f P Q b k e' f' P' Q' b' x : Int} (kw : Kd w e f P Q b) (kk : Kd k e' f' P' Q' b') (x0 : 0 ≤ x) (x1 : x < 18446744073709551616) : Ct 6 #[.int .i64 w, .int .i64 k, .int .u64 x] (.int .u64 (makC f P Q b (P' * Q') false x)) := hide (fun W => fromUint_l W (from_any kw kk false x0 x1))
theorem fromI_any {w e f P Q b k e' f' P' Q' b' x : Int} (kw : Kd w e f P Q b) (kk : Kd k e' f' P' Q' b') (x0 : 0 ≤ x) (x1 : x < 18446744073709551616) : Ct 7 #[.int .i64 w, .int .i64 k, .int .u64 x] (.int .u64 (makC f P Q b (P' * Q') true x)) := hide (fun W => fromInt_l W (from_any kw kk true x0 x1))

theorem narrow_turn {w e f P Q b w' e' f' P' Q' b' K X S : Int} (k : Kd w e f P Q b) (k' : Kd w' e' f' P' Q' b') (n : Bool) (h : Prt f P Q b K X S) : narrowN f' P' Q' b' n K X S = turnB f' P' Q' b' n K (mag X S) := by
  obtain ⟨a, c, -⟩ := h.in k
  unfold narrowN turnB nanB
  rw [num_mag S a c]
  have hK : K = 0 ∨ K = 1 ∨ K = 2 ∨ K = 3 := by unfold Prt at h; omega
  rcases hK with rfl | rfl | rfl | rfl
  · rw [if_pos rfl, if_neg (by decide), if_neg (by decide), h.mag0 (by decide), rd_zero k']
  · rw [if_neg (by decide), if_pos rfl, if_neg (by decide), if_neg (by decide)]
    rfl
  · simp
  · simp
theorem demote_any {x : Int} (x0 : 0 ≤ x) (x1 : x < 18446744073709551616) : Ct 12 #[.int .u64 x] (.int .u64 (turnB 23 8388608 256 127 (oN 4503599627370496 2048 x) (oK 4503599627370496 2048 x) (oM 52 4503599627370496 2048 1023 x))) := by
  obtain ⟨X, S, ho, hp, hm⟩ := open_kd kd_64 x
  obtain ⟨-, -, s0, -, s1⟩ := hp.in kd_64
  have hn := fun W => narrow_any kd_32 (oN 4503599627370496 2048 x) (oK 4503599627370496 2048 x) X S s0 (by omega) W
  rw [narrow_turn kd_64 kd_32 _ hp, hm] at hn
  exact hide (fun W => demote_l W (hide (fun W => open_any x kd_64.wd W x0 x1 ho)) (hide hn))

theorem aw_1 : makC 23 8388608 256 127 (8388608 * 256) true 4294967295 = 3212836864 := by decide +kernel
theorem aw_2 : turnB 23 8388608 256 127 (oN 4503599627370496 2048 9218868437227405311) (oK 4503599627370496 2048 9218868437227405311) (oM 52 4503599627370496 2048 1023 9218868437227405311) = 2139095040 := by decide +kernel
theorem aw_3 : makC 52 4503599627370496 2048 1023 (8388608 * 256) false 1 = 4607182418800017408 := by decide +kernel
theorem awake_any : Ct 5 #[] (.bool true) := by
  have h1 := fromI_any kd_32 kd_32 (x := 4294967295) (by omega) (by omega)
  have h2 := demote_any (x := 9218868437227405311) (by omega) (by omega)
  have h3 := fromU_any kd_64 kd_32 (x := 1) (by omega) (by omega)
  rw [aw_1] at h1
  rw [aw_2] at h2
  rw [aw_3] at h3
  exact hide (fun W => awake_l W h1 h2 h3)
end Go.Proofs.YtahdcbjfabccpaaDoor
namespace Go.Proofs.YtahdcbjfabccpaaDoor
open Go.RowKit
open Go.Proofs.YtahdcbjfabccpaaDoor.W

/-- How many bits there are from the highest one to the lowest one. -/
def spanN (a : Nat) : Nat := Go.bitLen (a / 2 ^ Lib.ctz 64 a)
/-- Whether the float that is nearest to a whole number is that number. -/
def exB (f b : Int) (a : Nat) : Bool := decide (fval f.toNat (lowN f b) (code f.toNat (lowN f b) (a * 2 ^ Z5)) = a * 2 ^ Z5)

theorem odd_split {a : Nat} (h0 : a ≠ 0) (h1 : a < 18446744073709551616) : ∃ m, a = 2 ^ Lib.ctz 64 a * (2 * m + 1) := by
  obtain ⟨m, hm, -⟩ := Lib.ctzFrom_spec 64 a (by omega) h1
  refine ⟨m, ?_⟩
  unfold Lib.ctz
  rw [if_neg h0]
  exact hm
theorem span_iff {f L a : Nat} (hL : L ≤ Z5) (h0 : a ≠ 0) (h1 : a < 18446744073709551616) : spanN a ≤ f + 1 ↔ fval f L (code f L (a * 2 ^ Z5)) = a * 2 ^ Z5 := by
  obtain ⟨m, hm⟩ := odd_split h0 h1
  have ho : a / 2 ^ Lib.ctz 64 a = 2 * m + 1 := by
    have := Nat.mul_div_cancel_left (2 * m + 1) (Nat.two_pow_pos (Lib.ctz 64 a))
    rw [← hm] at this
    exact this
  unfold spanN
  rw [ho]
  generalize Lib.ctz 64 a = t at *
  have hv : a * 2 ^ Z5 = (2 * m + 1) * 2 ^ (Z5 + t) := by rw [hm, Nat.mul_comm (2 ^ t), Nat.mul_assoc, ← Nat.pow_add, Nat.add_comm t]
  rw [hv]
  constructor
  · intro h
    obtain ⟨c, hc⟩ := rep_k (f := f) (L := L) (s := 2 * m + 1) (k := Z5 + t) (bl_lt h) (by omega)
    rw [hc, fval_code]
  · intro h
    obtain ⟨s, k, -, hs, -, -, he⟩ := fval_ex f L (code f L ((2 * m + 1) * 2 ^ (Z5 + t)))
    rw [h] at he
    refine bitLen_of ?_
    generalize Z5 + t = j at *
    by_cases hk : k ≤ j
    · obtain ⟨i, rfl⟩ : ∃ i, j = k + i := ⟨j - k, by omega⟩
      rw [Nat.pow_add, Nat.mul_comm (2 ^ k), ← Nat.mul_assoc] at he
      have e2 := Nat.eq_of_mul_eq_mul_right (Nat.two_pow_pos k) he
      have := Nat.le_mul_of_pos_right (2 * m + 1) (Nat.two_pow_pos i)
      omega
    · obtain ⟨i, rfl⟩ : ∃ i, k = j + (i + 1) := ⟨k - j - 1, by omega⟩
      rw [Nat.pow_add, Nat.mul_comm (2 ^ j), ← Nat.mul_assoc] at he
      have e2 := Nat.eq_of_mul_eq_mul_right (Nat.two_pow_pos j) he
      rw [Nat.pow_succ, ← Nat.mul_assoc] at e2
      generalize s * 2 ^ i = r at e2
      exfalso
      omega
theorem span_zero : spanN 0 = 0 := by decide +kernel
theorem exB_zero (f b : Int) : exB f b 0 = true := by
  unfold exB
  rw [Nat.zero_mul, code_zero, fval_zero]
  rfl
theorem span_exB {w e f P Q b : Int} (k : Kd w e f P Q b) {a : Nat} (h1 : a < 18446744073709551616) : decide ((spanN a : Int) ≤ f + 1) = exB f b a := by
  have hf : 0 ≤ f := by rcases k with ⟨-, -, rfl, -⟩ | ⟨-, -, rfl, -⟩ <;> decide
  by_cases h0 : a = 0
  · subst h0
    rw [exB_zero, span_zero]
    exact dt (by omega)
  · have h2 : ((spanN a : Int) ≤ f + 1) ↔ (spanN a ≤ f.toNat + 1) := by omega
    exact decide_eq_decide.mpr (h2.trans (span_iff (f := f.toNat) (low_le k) h0 h1))

theorem below_same {P : Program} {fn : Nat} {args : Array Value} {W : World} {v : Value} (h : Calls P fn args W fun r W' => r = .returned v ∧ W' = W) : Calls P fn args W fun r W' => r = .returned v ∧ Below W.heap.size W W' :=
  h.mono (by rintro _ _ ⟨rfl, rfl⟩; exact ⟨rfl, Below.refl _ _⟩)
theorem span_any {x : Int} (x0 : 0 ≤ x) (x1 : x < 18446744073709551616) : Cm 21 #[.int .u64 x] (.int .i64 (spanN x.toNat : Nat)) := by
  obtain ⟨a, rfl⟩ := Int.eq_ofNat_of_zero_le x0
  rw [Int.toNat_natCast]
  by_cases h0 : a = 0
  · subst h0
    rw [span_zero]
    exact hide (fun W m => span_z W m (hide (fun W m => below_same (tz_zero W m))) (hide (fun W => below_same (len64_any 0 W (by omega) (by omega)))))
  · have hk := (Lib.lowest_bit 64 a h0 (by omega)).2
    have hd : (a : Int) / 2 ^ ((Lib.ctz 64 a : Nat) : Int).toNat = ((a / 2 ^ Lib.ctz 64 a : Nat) : Int) := by
      rw [Int.toNat_natCast, Int.natCast_ediv, Int.natCast_pow]
      rfl
    have hle := Nat.div_le_self a (2 ^ Lib.ctz 64 a)
    unfold spanN
    generalize a / 2 ^ Lib.ctz 64 a = y at *
    have hl := fun W => len64_any (y : Int) W (by omega) (by omega)
    rw [Int.toNat_natCast] at hl
    exact hide (fun W m => span_n W m (by omega) (by omega) (hide (fun W m => below_same (tz_any a (by omega) W m))) hd (hide (fun W => below_same (hl W))))
theorem cknown_any {w e f P Q b : Int} (h : Wd w e f P Q b) : Ct 18 #[.int .i64 w] (.bool (f != 0)) := by
  have hk := fun W => cknown_l W (hide (fun W => fields_any h W))
  rw [show (e != 0) = (f != 0) by rcases h with ⟨-, rfl, rfl, -⟩ | ⟨-, rfl, rfl, -⟩ | ⟨-, rfl, rfl, -⟩ <;> decide] at hk
  exact hide hk
theorem cexact_no {w e f P Q b k e' f' P' Q' b' x : Int} (kw : Wd w e f P Q b) (kk : Wd k e' f' P' Q' b') (h : f = 0 ∨ f' = 0) (s : Bool) : Ct 8 #[.int .i64 w, .int .i64 k, .int .u64 x, .bool s] (.bool false) := by
  have HW := cknown_any kw
  have HK := cknown_any kk
  by_cases hf : f = 0
  · rw [ne_f hf] at HW
    exact hide (fun W => exact_no1 W HW)
  · rw [ne_t hf] at HW
    rw [ne_f (h.resolve_left hf)] at HK
    exact hide (fun W => exact_no2 W HW HK)
theorem cexact_any {w e f P Q b k e' f' P' Q' b' x : Int} (kw : Kd w e f P Q b) (kk : Kd k e' f' P' Q' b') (s : Bool) (x0 : 0 ≤ x) (x1 : x < 18446744073709551616) : Cm 8 #[.int .i64 w, .int .i64 k, .int .u64 x, .bool s] (.bool (exB f b (amt (P' * Q') s x).toNat)) := by
  have HW := cknown_any kw.wd
  have HK := cknown_any kk.wd
  rw [ne_t kw.f0] at HW
  rw [ne_t kk.f0] at HK
  obtain ⟨a0, a1, -⟩ := amt_in kk s x
  rw [← span_exB kw (show (amt (P' * Q') s x).toNat < 18446744073709551616 by omega)]
  exact hide (fun W m => exact_yes W m HW HK (number_any kk s x0 x1) (hide (fun W => fields_any kw.wd W)) (i64_id (by rcases kw with ⟨-, -, rfl, -⟩ | ⟨-, -, rfl, -⟩ <;> omega) (by rcases kw with ⟨-, -, rfl, -⟩ | ⟨-, -, rfl, -⟩ <;> omega)) (span_any a0 a1))

theorem signed_any {k e f P Q b x : Int} (kd : Kd k e f P Q b) (x0 : 0 ≤ x) (x1 : x < 18446744073709551616) : Ct 23 #[.int .i64 k, .int .u64 x] (.tuple #[.bool (ngs (P * Q) true x), .int .u64 (amt (P * Q) true x)]) := by
  have HC := fun W => refCut_any x kd W x0 x1
  rw [show cutN f P Q x = x % (2 * (P * Q)) by unfold cutN; rw [if_neg kd.f0]] at HC
  rcases kd_half kd with ⟨rfl, h⟩ | ⟨rfl, h⟩ <;> rw [h] at HC ⊢ <;> clear h
  · have HT := fun W => two_any 31 2147483648 W (by omega) (by omega) (by decide +kernel)
    by_cases g : 2147483648 ≤ x % (2 * 2147483648)
    · rw [ngs_t g, amt_t g]
      exact hide (fun W => signed_32 W (hide HC) (hide HT) (by omega) (by rw [IntKind.wrap_u64]; omega))
    · rw [ngs_p g, amt_p g]
      exact hide (fun W => signed_p W (hide HC) (by decide) (hide HT) (by omega))
  · have HT := fun W => two_any 63 9223372036854775808 W (by omega) (by omega) (by decide +kernel)
    by_cases g : 9223372036854775808 ≤ x % (2 * 9223372036854775808)
    · rw [ngs_t g, amt_t g]
      exact hide (fun W => signed_64 W (hide HC) (hide HT) (by omega) (by rw [IntKind.wrap_u64, Int.emod_eq_of_lt (by omega) (by omega)]) (by rw [IntKind.wrap_u64]; omega))
    · rw [ngs_p g, amt_p g]
      exact hide (fun W => signed_p W (hide HC) (by decide) (hide HT) (by omega))

theorem word_140 {x : Int} (x1 : x < 18446744073709551616) : x.toNat < pw 140 := lt_pw (k := 2) 140 (by rw [pw_2]; omega) (by omega)
theorem at_word {w e f P Q b : Int} (k : Kd w e f P Q b) (n : Bool) {a : Int} (a1 : a < 18446744073709551616) :
    Hid (∀ (p : Option Addr) (np cp : Nat) (W : World), IsNat W (.slice p np cp) a.toNat → Calls Tryd.prog 24 #[.int .i64 w, .bool n, .agg #[.slice p np cp], .int .i64 0] W fun r W' => r = .returned (.int .u64 (rd f P Q b n (a.toNat * 2 ^ Z5))) ∧ Below W.heap.size W W') :=
  ex_at (low := 0) k n a.toNat (a.toNat * 2 ^ Z5) (word_140 a1) (by omega) (by omega) (by rw [Z5_at])
theorem refMake_any {w e f P Q b k e' f' P' Q' b' x : Int} (kw : Kd w e f P Q b) (kk : Kd k e' f' P' Q' b') (s : Bool) (x0 : 0 ≤ x) (x1 : x < 18446744073709551616) : Ct 10 #[.int .i64 w, .int .i64 k, .int .u64 x, .bool s] (.int .u64 (makC f P Q b (P' * Q') s x)) := by
  obtain ⟨a0, a1, -⟩ := amt_in kk s x
  have HC := fun W => refCut_any x kk W x0 x1
  have hc : cutN f' P' Q' x = amt (P' * Q') false x := by rw [amt_f]; unfold cutN; rw [if_neg kk.f0]
  cases s
  · rw [hc] at HC
    unfold makC
    rw [ngs_f]
    exact hide (fun W => refMake_f W (hide HC) a0 a1 (at_word kw false a1))
  · exact hide (fun W => refMake_t W (hide HC) (signed_any kk x0 x1) a0 a1 (at_word kw _ a1))

theorem cmp_zero (u v : Nat) : (cmpN u v == 0) = decide (u = v) := by
  unfold cmpN
  by_cases h1 : u < v
  · rw [if_pos h1, df (by omega)]
    rfl
  · rw [if_neg h1]
    by_cases h2 : v < u
    · rw [if_pos h2, df (by omega)]
      rfl
    · rw [if_neg h2, dt (by omega)]
      rfl
theorem mag_eq_n {E S : Int} {a : Nat} (h : ¬ 0 < E) (h0 : -5000 ≤ E) : decide (S.toNat = a * 2 ^ (-E).toNat) = decide (mag E S = a * 2 ^ Z5) := by
  unfold mag
  have hz : 2 ^ Z5 = 2 ^ (-E).toNat * 2 ^ (E + 5000).toNat := by rw [← Nat.pow_add]; congr 1; unfold Z5; omega
  rw [hz, ← Nat.mul_assoc]
  refine decide_eq_decide.mpr ⟨fun h => by rw [h], fun h => Nat.eq_of_mul_eq_mul_right (Nat.two_pow_pos _) h⟩
theorem mag_eq_p {E S : Int} {a : Nat} (h : 0 < E) : decide (S.toNat * 2 ^ E.toNat = a) = decide (mag E S = a * 2 ^ Z5) := by
  unfold mag
  have hz : 2 ^ (E + 5000).toNat = 2 ^ E.toNat * 2 ^ Z5 := by rw [← Nat.pow_add]; congr 1; unfold Z5; omega
  rw [hz, ← Nat.mul_assoc]
  refine decide_eq_decide.mpr ⟨fun h => by rw [h], fun h => Nat.eq_of_mul_eq_mul_right (Nat.two_pow_pos _) h⟩
/-- What the reference's Exact asks, of the float's parts. -/
theorem open_word {w e f P Q b : Int} (k : Kd w e f P Q b) {a V : Int} (a0 : 0 ≤ a) (a1 : a < 18446744073709551616) (hV : rd f P Q b false (a.toNat * 2 ^ Z5) = V) :
    0 ≤ V ∧ V < 18446744073709551616 ∧ (a = 0 ∧ oK P Q V = 0 ∨ a ≠ 0 ∧ oK P Q V = 1 ∧ oM f P Q b V = fval f.toNat (lowN f b) (code f.toNat (lowN f b) (a.toNat * 2 ^ Z5))) := by
  rw [word_rd k false _ (by omega)] at hV
  have ht := word_code k a.toNat (by omega)
  obtain ⟨h0, h1, h2, -, h4, h5, h6⟩ := fl_parts k false ht
  rw [hV] at h0 h1 h2 h4 h5 h6
  refine ⟨h0, h1, ?_⟩
  by_cases hz : a = 0
  · refine Or.inl ⟨hz, ?_⟩
    rw [hz, nought_up, code_zero] at h2
    rcases kind_oc k V with ⟨g, -⟩ | ⟨g, -⟩ | ⟨-, g, -⟩ | ⟨g, -⟩
    · exact absurd g h4
    · exact absurd g h5
    · exfalso; omega
    · exact g
  · refine Or.inr ⟨hz, ?_, h6⟩
    have hc : code f.toNat (lowN f b) (a.toNat * 2 ^ Z5) ≠ 0 := by
      have hp : 1 < 2 ^ (f.toNat + 1) := Nat.one_lt_two_pow (by omega)
      obtain ⟨c, c1, -, -⟩ := whole_code k 1 hp
      have hm := code_mono f.toNat (lowN f b) (Nat.mul_le_mul_right (2 ^ Z5) (show 1 ≤ a.toNat by omega))
      rw [← c1, fval_code] at hm
      have hc0 : c ≠ 0 := fun h => by
        rw [h, fval_zero] at c1
        have := Nat.two_pow_pos Z5
        omega
      omega
    rcases kind_oc k V with ⟨g, -⟩ | ⟨g, -⟩ | ⟨g, -⟩ | ⟨-, g, -⟩
    · exact absurd g h4
    · exact absurd g h5
    · exact g
    · exfalso; omega
theorem refExact_any {w e f P Q b k e' f' P' Q' b' x : Int} (kw : Kd w e f P Q b) (kk : Kd k e' f' P' Q' b') (s : Bool) (x0 : 0 ≤ x) (x1 : x < 18446744073709551616) : Ct 11 #[.int .i64 w, .int .i64 k, .int .u64 x, .bool s] (.bool (exB f b (amt (P' * Q') s x).toNat)) := by
  obtain ⟨a0, a1, -⟩ := amt_in kk s x
  have HC := fun W => refCut_any x kk W x0 x1
  have hc : cutN f' P' Q' x = amt (P' * Q') false x := by rw [amt_f]; unfold cutN; rw [if_neg kk.f0]
  have HS := signed_any kk x0 x1
  have HX := at_word kw false a1
  obtain ⟨V, hV⟩ : ∃ V, rd f P Q b false ((amt (P' * Q') s x).toNat * 2 ^ Z5) = V := ⟨_, rfl⟩
  obtain ⟨v0, v1, hK⟩ := open_word kw a0 a1 hV
  obtain ⟨E, S, ho, hp, hm⟩ := open_kd kw V
  obtain ⟨e0, e1, s0, -, s1⟩ := hp.in kw
  have HO := fun W => refOpen_any V kw W v0 v1 ho
  rw [hV] at HX
  rcases hK with ⟨hz, hK⟩ | ⟨hz, hK, hM⟩
  · have e : exB f b (amt (P' * Q') s x).toNat = (amt (P' * Q') s x == 0) := by
      rw [hz]
      exact exB_zero f b
    rw [e]
    cases s
    · rw [hc] at HC
      exact hide (fun W => refExact_fz W (hide HC) a0 a1 HX (hide HO) (eq_t hK))
    · exact hide (fun W => refExact_tz W (hide HC) HS a0 a1 HX (hide HO) (eq_t hK))
  · have e : exB f b (amt (P' * Q') s x).toNat = decide (mag E S = (amt (P' * Q') s x).toNat * 2 ^ Z5) := by
      unfold exB
      rw [hm, hM]
    by_cases hE : 0 < E
    · rw [e, ← mag_eq_p hE, ← cmp_zero]
      cases s
      · rw [hc] at HC
        exact hide (fun W => refExact_fp W (hide HC) a0 a1 HX (hide HO) (eq_f (by omega)) s0 (by omega) hE (by omega) (i64_id (by omega) (by omega)))
      · exact hide (fun W => refExact_tp W (hide HC) HS a0 a1 HX (hide HO) (eq_f (by omega)) s0 (by omega) hE (by omega) (i64_id (by omega) (by omega)))
    · rw [e, ← mag_eq_n hE (by omega), ← cmp_zero]
      cases s
      · rw [hc] at HC
        exact hide (fun W => refExact_fn W (hide HC) a0 a1 HX (hide HO) (eq_f (by omega)) s0 (by omega) hE (by omega) (i64_id (by omega) (by omega)))
      · exact hide (fun W => refExact_tn W (hide HC) HS a0 a1 HX (hide HO) (eq_f (by omega)) s0 (by omega) hE (by omega) (i64_id (by omega) (by omega)))
end Go.Proofs.YtahdcbjfabccpaaDoor
namespace Go.Proofs.YtahdcbjfabccpaaDoor
open Go.RowKit
open Go.Proofs.YtahdcbjfabccpaaDoor.W

set_option maxHeartbeats 4000000 in
set_option maxRecDepth 100000 in
theorem makes_no1 {w k x : Int} (W : World) (HA : Ct 5 #[] (.bool true)) (H1 : Ct 6 #[.int .i64 w, .int .i64 k, .int .u64 x] (.int .u64 0)) (H2 : Ct 7 #[.int .i64 w, .int .i64 k, .int .u64 x] (.int .u64 0)) (H3 : Ct 8 #[.int .i64 w, .int .i64 k, .int .u64 x, .bool false] (.bool false)) (H4 : Ct 8 #[.int .i64 w, .int .i64 k, .int .u64 x, .bool true] (.bool false)) (HW : Ct 9 #[.int .i64 w] (.bool false)) :
    Calls Tryd.prog 3 #[.int .i64 w, .int .i64 k, .int .u64 x] W fun r W' => r = .returned (.bool true) ∧ Below W.heap.size W W' := by
  have HB := hide (Below.refl W.heap.size W)
  go_enter Tryd.func3, Tryd.ntmps3
  go_wp2_with fail
  refine (unhide HA _).mono ?_
  rintro _ w1 ⟨rfl, hb⟩
  have HB := hide (bthen (unhide HB) hb)
  clear hb
  go_wp2_with fail
  refine (unhide H1 _).mono ?_
  rintro _ w2 ⟨rfl, hb⟩
  have HB := hide (bthen (unhide HB) hb)
  clear hb
  go_wp2_with fail
  refine (unhide H2 _).mono ?_
  rintro _ w3 ⟨rfl, hb⟩
  have HB := hide (bthen (unhide HB) hb)
  clear hb
  go_wp2_with fail
  refine (unhide H3 _).mono ?_
  rintro _ w4 ⟨rfl, hb⟩
  have HB := hide (bthen (unhide HB) hb)
  clear hb
  go_wp2_with fail
  refine (unhide H4 _).mono ?_
  rintro _ w5 ⟨rfl, hb⟩
  have HB := hide (bthen (unhide HB) hb)
  clear hb
  go_wp2_with fail
  refine (unhide HW _).mono ?_
  rintro _ w6 ⟨rfl, hb⟩
  have HB := hide (bthen (unhide HB) hb)
  clear hb
  go_wp2_with fail
  go_ret
  exact ⟨by simp, unhide HB⟩
set_option maxHeartbeats 4000000 in
set_option maxRecDepth 100000 in
theorem makes_no2 {w k x : Int} (W : World) (HA : Ct 5 #[] (.bool true)) (H1 : Ct 6 #[.int .i64 w, .int .i64 k, .int .u64 x] (.int .u64 0)) (H2 : Ct 7 #[.int .i64 w, .int .i64 k, .int .u64 x] (.int .u64 0)) (H3 : Ct 8 #[.int .i64 w, .int .i64 k, .int .u64 x, .bool false] (.bool false)) (H4 : Ct 8 #[.int .i64 w, .int .i64 k, .int .u64 x, .bool true] (.bool false)) (HW : Ct 9 #[.int .i64 w] (.bool true)) (HK : Ct 9 #[.int .i64 k] (.bool false)) :
    Calls Tryd.prog 3 #[.int .i64 w, .int .i64 k, .int .u64 x] W fun r W' => r = .returned (.bool true) ∧ Below W.heap.size W W' := by
  have HB := hide (Below.refl W.heap.size W)
  go_enter Tryd.func3, Tryd.ntmps3
  go_wp2_with fail
  refine (unhide HA _).mono ?_
  rintro _ w1 ⟨rfl, hb⟩
  have HB := hide (bthen (unhide HB) hb)
  clear hb
  go_wp2_with fail
  refine (unhide H1 _).mono ?_
  rintro _ w2 ⟨rfl, hb⟩
  have HB := hide (bthen (unhide HB) hb)
  clear hb
  go_wp2_with fail
  refine (unhide H2 _).mono ?_
  rintro _ w3 ⟨rfl, hb⟩
  have HB := hide (bthen (unhide HB) hb)
  clear hb
  go_wp2_with fail
  refine (unhide H3 _).mono ?_
  rintro _ w4 ⟨rfl, hb⟩
  have HB := hide (bthen (unhide HB) hb)
  clear hb
  go_wp2_with fail
  refine (unhide H4 _).mono ?_
  rintro _ w5 ⟨rfl, hb⟩
  have HB := hide (bthen (unhide HB) hb)
  clear hb
  go_wp2_with fail
  refine (unhide HW _).mono ?_
  rintro _ w6 ⟨rfl, hb⟩
  have HB := hide (bthen (unhide HB) hb)
  clear hb
  go_wp2_with fail
  refine (unhide HK _).mono ?_
  rintro _ w7 ⟨rfl, hb⟩
  have HB := hide (bthen (unhide HB) hb)
  clear hb
  go_wp2_with fail
  go_ret
  exact ⟨by simp, unhide HB⟩
set_option maxHeartbeats 4000000 in
set_option maxRecDepth 100000 in
theorem makes_k {w k x a c : Int} {p q : Bool} (W : World) (HM : Hid (Mk W)) (HA : Ct 5 #[] (.bool true)) (H1 : Ct 6 #[.int .i64 w, .int .i64 k, .int .u64 x] (.int .u64 a)) (H2 : Ct 7 #[.int .i64 w, .int .i64 k, .int .u64 x] (.int .u64 c)) (H3 : Cm 8 #[.int .i64 w, .int .i64 k, .int .u64 x, .bool false] (.bool p)) (H4 : Cm 8 #[.int .i64 w, .int .i64 k, .int .u64 x, .bool true] (.bool q)) (HW : Ct 9 #[.int .i64 w] (.bool true)) (HK : Ct 9 #[.int .i64 k] (.bool true)) (M1 : Ct 10 #[.int .i64 w, .int .i64 k, .int .u64 x, .bool false] (.int .u64 a)) (M2 : Ct 10 #[.int .i64 w, .int .i64 k, .int .u64 x, .bool true] (.int .u64 c)) (R1 : Ct 11 #[.int .i64 w, .int .i64 k, .int .u64 x, .bool false] (.bool p)) (R2 : Ct 11 #[.int .i64 w, .int .i64 k, .int .u64 x, .bool true] (.bool q)) :
    Calls Tryd.prog 3 #[.int .i64 w, .int .i64 k, .int .u64 x] W fun r W' => r = .returned (.bool true) ∧ Below W.heap.size W W' := by
  have HB := hide (Below.refl W.heap.size W)
  go_enter Tryd.func3, Tryd.ntmps3
  go_wp2_with fail
  refine (unhide HA _).mono ?_
  rintro _ w1 ⟨rfl, hb⟩
  have HB := hide (bthen (unhide HB) hb)
  have HM := hide ((unhide HM).below hb)
  clear hb
  go_wp2_with fail
  refine (unhide H1 _).mono ?_
  rintro _ w2 ⟨rfl, hb⟩
  have HB := hide (bthen (unhide HB) hb)
  have HM := hide ((unhide HM).below hb)
  clear hb
  go_wp2_with fail
  refine (unhide H2 _).mono ?_
  rintro _ w3 ⟨rfl, hb⟩
  have HB := hide (bthen (unhide HB) hb)
  have HM := hide ((unhide HM).below hb)
  clear hb
  go_wp2_with fail
  refine (unhide H3 _ (unhide HM)).mono ?_
  rintro _ w4 ⟨rfl, hb⟩
  have HB := hide (bthen (unhide HB) hb)
  have HM := hide ((unhide HM).below hb)
  clear hb
  go_wp2_with fail
  refine (unhide H4 _ (unhide HM)).mono ?_
  rintro _ w5 ⟨rfl, hb⟩
  have HB := hide (bthen (unhide HB) hb)
  have HM := hide ((unhide HM).below hb)
  clear hb
  go_wp2_with fail
  refine (unhide HW _).mono ?_
  rintro _ w6 ⟨rfl, hb⟩
  have HB := hide (bthen (unhide HB) hb)
  have HM := hide ((unhide HM).below hb)
  clear hb
  go_wp2_with fail
  refine (unhide HK _).mono ?_
  rintro _ w7 ⟨rfl, hb⟩
  have HB := hide (bthen (unhide HB) hb)
  have HM := hide ((unhide HM).below hb)
  clear hb
  go_wp2_with fail
  refine (unhide M1 _).mono ?_
  rintro _ w8 ⟨rfl, hb⟩
  have HB := hide (bthen (unhide HB) hb)
  have HM := hide ((unhide HM).below hb)
  clear hb
  go_wp2_with fail
  refine (unhide M2 _).mono ?_
  rintro _ w9 ⟨rfl, hb⟩
  have HB := hide (bthen (unhide HB) hb)
  have HM := hide ((unhide HM).below hb)
  clear hb
  go_wp2_with fail
  refine (unhide R1 _).mono ?_
  rintro _ w10 ⟨rfl, hb⟩
  have HB := hide (bthen (unhide HB) hb)
  have HM := hide ((unhide HM).below hb)
  clear hb
  go_wp2_with fail
  refine (unhide R2 _).mono ?_
  rintro _ w11 ⟨rfl, hb⟩
  have HB := hide (bthen (unhide HB) hb)
  have HM := hide ((unhide HM).below hb)
  clear hb
  go_wp2_with fail
  go_ret
  exact ⟨by simp, unhide HB⟩
end Go.Proofs.YtahdcbjfabccpaaDoor
namespace Go.Proofs.YtahdcbjfabccpaaDoor
open Go.ChangeShapes Go.WideShapes Go.ChangeAt Go.WideElems Go.RowKit
open Go.Proofs.YtahdcbjfabccpaaDoor.W

def laidL : List (String × DataW Unit) := [("math/bits.deBruijn64tab", Rows.laid_math_bits_deBruijn64tab)]
theorem own : ownKnob Tryd.prog.godebug = none := by kernel_rfl
theorem gTab : Tryd.prog.globalNamed "math/bits.deBruijn64tab" = some 0 := by kernel_rfl
theorem tTab : (Tryd.prog.globals[0]?).map (·.type) = some 79 := by kernel_rfl
/-- The heap that the initialiser leaves meets the condition. -/
theorem door_met (os : Os) (args : Array Value) : laidMetH Tryd.prog laidL ((World.doorLaid Tryd.prog 400 os).forCall (fun _ _ => 0) ⟨#[], args, []⟩).memory :=
  laidMetH_of_parts3 (fuel := 8) (laidMet_of_run' 8 (by kernel_rfl) (by kernel_rfl)) (by kernel_rfl) (by kernel_rfl)
theorem c5 : Tryd.prog.cellsOf 5 = 1 := by kernel_rfl
theorem tab_datum {H : Type} : (Rows.laid_math_bits_deBruijn64tab : DataW H) = .agg (Lib.deBruijn64tab.map fun n : Nat => .lit (.int .u8 (n : Int))) := rfl
theorem of_laid {W : World} (h : laidMetH Tryd.prog laidL W) : Mk W := by
  rw [MakeChecks.laidMetH_plain _ _ _ (by kernel_rfl)] at h
  obtain ⟨ps, ⟨g0, t0, cs0, f0, p0, q0, hg0, ht0, hv0, hd0, _, _⟩, _, _⟩ := h
  obtain rfl := Option.some.inj (gTab.symm.trans hg0)
  obtain rfl := Option.some.inj (tTab.symm.trans ht0)
  obtain ⟨xs, m1, rfl, hx1, hlen, hn3, hel⟩ := DataW.trod_array Tryd.underlying79 hd0
  simp only [Prod.mk.injEq] at hx1
  have hx := hx1.1
  rw [tab_datum] at hx
  injection hx with hx
  intro j hj
  have hj' := hel j hj
  rw [c5, Nat.mul_one, List.getElem?_eq_getElem (show j < xs.length by omega)] at hj'
  obtain ⟨k, e0, e1, -⟩ := DataW.trod_int Tryd.underlying5 hj'
  have h1 : (xs.map (·.1))[j]? = some (.lit (.int .u8 k)) := by
    rw [List.getElem?_map, List.getElem?_eq_getElem (show j < xs.length by omega), e1]
    rfl
  have hl : Lib.deBruijn64tab.length = 64 := rfl
  obtain ⟨d, hd⟩ : ∃ d, Lib.deBruijn64tab[j]? = some d := ⟨_, List.getElem?_eq_getElem (show j < Lib.deBruijn64tab.length by rw [hl]; exact hj)⟩
  rw [← hx, List.getElem?_map, hd] at h1
  simp only [Option.map_some, Option.some.injEq, DataW.lit.injEq, Lit.int.injEq, true_and] at h1
  have h2 : Lib.deBruijn64tab.getD j 0 = d := by
    rw [List.getD_eq_getElem?_getD, hd]
    rfl
  rw [h2, h1]
  have h3 := congrArg (·[0]?) e0
  simp [List.getElem?_drop] at h3
  have hc := World.var?_cell hg0 hv0 j
  rw [hc]
  simpa using h3
theorem word_of_wf {x : Int} (h : (Lit.int .u64 x).wf = true) : 0 ≤ x ∧ x < 18446744073709551616 := by
  simp [Lit.wf, IntKind.min, IntKind.max, IntKind.signed, IntKind.bits] at h
  exact ⟨by omega, by omega⟩
end Go.Proofs.YtahdcbjfabccpaaDoor
