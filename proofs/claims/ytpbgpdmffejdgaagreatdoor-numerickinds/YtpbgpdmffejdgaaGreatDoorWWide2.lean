/- Contracts of wide.down and wide.Right. -/
import Derived.Test.YtpbgpdmffejdgaaGreatDoorWWide1
import Derived.LoopTactic
namespace Go.Proofs.YtpbgpdmffejdgaaGreatDoor.W
open Go.RowKit

theorem bcell {W w1 : World} (hb : Below W.heap.size W w1) : (∀ b o, b < W.heap.size → w1.cell? ⟨b, o, none⟩ = W.cell? ⟨b, o, none⟩) ∧ (∀ b o, b < W.heap.size → w1.frozen? ⟨b, o, none⟩ = W.frozen? ⟨b, o, none⟩) :=
  ⟨fun b o h => hb.cell (p := ⟨b, o, none⟩) h, fun b o h => hb.frozen (p := ⟨b, o, none⟩) h⟩

/-- A number by a power of two, down. -/
def shrN (v : Nat) (n : Int) : Nat := v / 2 ^ n.toNat
theorem shrN_w {v : Nat} (n : Int) (hv : W2 v) : W2 (shrN v n) := Nat.lt_of_le_of_lt (Nat.div_le_self _ _) hv

set_option maxHeartbeats 1000000 in
theorem down_n (v : Nat) (n : Int) (w : World) (hv : W2 v) :
    Calls Tryz.prog 277 #[.agg #[.int .u64 (hi v), .int .u64 (lo v)], .int .i64 n] w fun e w' => e = .returned (.agg #[.int .u64 (hi (shrN v n)), .int .u64 (lo (shrN v n))]) ∧ Below w.heap.size w w' := by
  by_cases c1 : n ≤ 0
  · have HE : Hid (v = shrN v n) := by
      unfold Hid shrN; rw [show n.toNat = 0 by omega, Nat.pow_zero, Nat.div_one]
    go_enter Tryz.func277, Tryz.ntmps277
    go_wp2
    exact bodyPost_ret (v := .agg #[.int .u64 (hi v), .int .u64 (lo v)]) (by simp [results, Tryz.results277, go_sem]) rfl ⟨by rw [← HE.out], below2 _ _ _⟩
  by_cases c2 : n < 64
  · have HA : Hid (hi v / 2 ^ n.toNat = hi (shrN v n)) := by
      unfold Hid hi shrN
      rw [shr_nat, right_hi]
    have HB : Hid (bits .or .u64 (lo v / 2 ^ n.toNat) (IntKind.u64.wrap (hi v * 2 ^ (64 - n).toNat)) = lo (shrN v n)) := by
      unfold Hid hi lo shrN
      rw [shl_nat, shr_nat, show (64 - n).toNat = 64 - n.toNat by omega]
      exact or_words _ _ _ (Nat.lt_of_le_of_lt (Nat.div_le_self _ _) (by omega)) (by omega) (right_lo v n.toNat (by omega))
    go_enter Tryz.func277, Tryz.ntmps277
    go_wp2
    go_region
    go_wp2
    exact bodyPost_ret (v := .agg #[.int .u64 (hi v / 2 ^ n.toNat), .int .u64 (bits .or .u64 (lo v / 2 ^ n.toNat) (IntKind.u64.wrap (hi v * 2 ^ (64 - n).toNat)))]) (by simp [results, Tryz.results277, go_sem]) rfl ⟨by rw [HA.out, HB.out], below2d _ _ _⟩
  by_cases c3 : n < 128
  · have HE : Hid ((hi v / 2 ^ (n - 64).toNat).toNat = shrN v n) := by
      unfold Hid hi shrN
      rw [shr_nat, Int.toNat_natCast, right_64, show 64 + (n - 64).toNat = n.toNat by omega]
    have k0 : 0 ≤ hi v / 2 ^ (n - 64).toNat := by unfold hi; rw [shr_nat]; exact Int.natCast_nonneg _
    have k1 : hi v / 2 ^ (n - 64).toNat < 18446744073709551616 := by
      have := hi_1 hv
      unfold hi at this ⊢; rw [shr_nat]
      exact Int.lt_of_le_of_lt (Int.ofNat_le.2 (Nat.div_le_self (v / 18446744073709551616) (2 ^ (n - 64).toNat))) this
    go_enter Tryz.func277, Tryz.ntmps277
    go_wp2_with fail
    refine (of_n _ _ k0 k1).mono ?_
    rintro e w1 ⟨rfl, hb⟩
    rw [HE.out]
    obtain ⟨hc, hf⟩ := bcell hb
    have hz : w.heap.size + 1 < w1.heap.size := by have := hb.size; simp at this; omega
    go_wp2
    exact bodyPost_ret (v := .agg #[.int .u64 (hi (shrN v n)), .int .u64 (lo (shrN v n))]) (by simp [results, Tryz.results277, go_sem, hc]) rfl ⟨rfl, (((below2 _ _ _).trans (hb.mono (by simp; omega))).setCell (by simp) _).setCell (by simp) _⟩
  · have HE : Hid (shrN v n = 0) := by
      unfold Hid shrN; rw [show n.toNat = 128 + (n - 128).toNat by omega, right_128 _ _ hv]
    go_enter Tryz.func277, Tryz.ntmps277
    go_wp2
    exact bodyPost_ret (v := .agg #[.int .u64 0, .int .u64 0]) (by simp [results, Tryz.results277, go_sem]) rfl ⟨by rw [HE.out]; rfl, below2 _ _ _⟩

/-- Whether something is lost by it. -/
def lostB (v : Nat) (n : Int) : Bool := decide (v % 2 ^ n.toNat ≠ 0)

theorem lost_iff (v : Nat) (n : Int) (hv : W2 v) : shlN (shrN v n) n = v ↔ lostB v n = false := by
  unfold shlN shrN lostB
  have h1 : v / 2 ^ n.toNat * 2 ^ n.toNat + v % 2 ^ n.toNat = v := Nat.div_add_mod' _ _
  unfold W2 at hv
  rw [Nat.mod_eq_of_lt (by omega)]
  simp
  omega

/-- Two cells of two words: what a store of the very same values leaves. -/
theorem keep_right {w' : World} {b : Nat} {x0 x1 y0 y1 : Value}
    (h : w'.cell? ⟨b, 0, none⟩ = some x0 ∧ w'.cell? ⟨b, 1, none⟩ = some x1 ∧ w'.cell? ⟨b + 1, 0, none⟩ = some y0 ∧ w'.cell? ⟨b + 1, 1, none⟩ = some y1) :
    ((w'.setCell ⟨b + 1, 0, none⟩ y0).setCell ⟨b + 1, 1, none⟩ y1).cell? ⟨b, 0, none⟩ = some x0 ∧ ((w'.setCell ⟨b + 1, 0, none⟩ y0).setCell ⟨b + 1, 1, none⟩ y1).cell? ⟨b, 1, none⟩ = some x1 ∧
      ((w'.setCell ⟨b + 1, 0, none⟩ y0).setCell ⟨b + 1, 1, none⟩ y1).cell? ⟨b + 1, 0, none⟩ = some y0 ∧ ((w'.setCell ⟨b + 1, 0, none⟩ y0).setCell ⟨b + 1, 1, none⟩ y1).cell? ⟨b + 1, 1, none⟩ = some y1 := by
  obtain ⟨h1, h2, h3, h4⟩ := h
  refine ⟨?_, ?_, ?_, ?_⟩
  · rw [World.cell?_setCell_other _ _ _ _ (by simp), World.cell?_setCell_other _ _ _ _ (by simp)]; exact h1
  · rw [World.cell?_setCell_other _ _ _ _ (by simp), World.cell?_setCell_other _ _ _ _ (by simp)]; exact h2
  · rw [World.cell?_setCell_other _ _ _ _ (by simp)]; exact World.cell?_setCell_same _ _ _ h3
  · exact World.cell?_setCell_same _ _ _ (u := y1) (by rw [World.cell?_setCell_other _ _ _ _ (by simp)]; exact h4)

theorem right_case (v : Nat) (n : Int) (w : World) (hv : W2 v) (b : Bool)
    (hq : (hi (shlN (shrN v n) n) == hi v) = true ∧ (lo (shlN (shrN v n) n) == lo v) = true ∧ b = false ∨ (hi (shlN (shrN v n) n) == hi v) = true ∧ (lo (shlN (shrN v n) n) == lo v) = false ∧ b = true ∨ (hi (shlN (shrN v n) n) == hi v) = false ∧ b = true) :
    Calls Tryz.prog 262 #[.agg #[.int .u64 (hi v), .int .u64 (lo v)], .int .i64 n] w fun e w' => e = .returned (.tuple #[.agg #[.int .u64 (hi (shrN v n)), .int .u64 (lo (shrN v n))], .bool b]) ∧ Below w.heap.size w w' := by
  rcases hq with ⟨q1, q2, rfl⟩ | ⟨q1, q2, rfl⟩ | ⟨q1, rfl⟩
  all_goals
    go_enter Tryz.func262, Tryz.ntmps262
    go_wp2_with fail
    refine (down_n v n _ hv).mono ?_
    rintro e w1 ⟨rfl, hb⟩
    obtain ⟨hc, hf⟩ := bcell hb
    have hz : w.heap.size + 1 < w1.heap.size := by have := hb.size; simp at this; omega
    have hz' : w.heap.size < w1.heap.size := by omega
    go_wp2_with fail
    go_region_held3 (fun w' => w'.cell? ⟨w.heap.size, 0, none⟩ = some (.int .u64 (hi v)) ∧ w'.cell? ⟨w.heap.size, 1, none⟩ = some (.int .u64 (lo v)) ∧ w'.cell? ⟨w.heap.size + 1, 0, none⟩ = some (.int .u64 (hi (shrN v n))) ∧ w'.cell? ⟨w.heap.size + 1, 1, none⟩ = some (.int .u64 (lo (shrN v n)))) (first | (simp [go_sem, *]; done) | exact keep_right ‹_›)
      (first | (go_at_call 234; refine (left_n (shrN v n) n _ (shrN_w n hv)).mono ?_; rintro e w2 ⟨rfl, hb2⟩; obtain ⟨hc2, hf2⟩ := bcell hb2))
    go_wp2
    refine bodyPost_ret (v := .tuple #[.agg #[.int .u64 (hi (shrN v n)), .int .u64 (lo (shrN v n))], .bool _]) ?_ rfl ⟨rfl, ?_⟩
    · simp [results, Tryz.results262, go_sem, *]
    · exact (((((((below2 _ _ _).trans (hb.mono (by simp; omega))).setCell (by simp) _).setCell (by simp) _).drew).trans (hb2.mono (by simp; omega))).setCell (by simp) _).setCell (by simp) _

theorem right_n (v : Nat) (n : Int) (w : World) (hv : W2 v) :
    Calls Tryz.prog 262 #[.agg #[.int .u64 (hi v), .int .u64 (lo v)], .int .i64 n] w fun e w' => e = .returned (.tuple #[.agg #[.int .u64 (hi (shrN v n)), .int .u64 (lo (shrN v n))], .bool (lostB v n)]) ∧ Below w.heap.size w w' := by
  refine right_case v n w hv (lostB v n) ?_
  have hl := lost_iff v n hv
  by_cases h1 : hi (shlN (shrN v n) n) = hi v
  · by_cases h2 : lo (shlN (shrN v n) n) = lo v
    · exact Or.inl ⟨by simp [h1], by simp [h2], hl.1 (words_inj h1 h2)⟩
    · refine Or.inr (Or.inl ⟨by simp [h1], by simp [h2], ?_⟩)
      cases hb : lostB v n with
      | true => rfl
      | false => exact absurd (by rw [hl.2 hb]) h2
  · refine Or.inr (Or.inr ⟨by simp [h1], ?_⟩)
    cases hb : lostB v n with
    | true => rfl
    | false => exact absurd (by rw [hl.2 hb]) h1

theorem hide {p : Prop} (h : p) : Hid p := h
theorem unhide {p : Prop} (h : Hid p) : p := h
theorem keep2 {W w' : World} {b : Nat} {x y : Value} (hb : Below W.heap.size W w') (hz : b < W.heap.size) (h : W.cell? ⟨b, 0, none⟩ = some x ∧ W.cell? ⟨b, 1, none⟩ = some y) :
    w'.cell? ⟨b, 0, none⟩ = some x ∧ w'.cell? ⟨b, 1, none⟩ = some y :=
  ⟨by rw [hb.cell (p := ⟨b, 0, none⟩) hz]; exact h.1, by rw [hb.cell (p := ⟨b, 1, none⟩) hz]; exact h.2⟩
theorem bthen {a b c : World} (h : Below a.heap.size a b) (k : Below b.heap.size b c) : Below a.heap.size a c := h.trans (k.mono h.size)
theorem balloc {a b : World} (h : Below a.heap.size a b) (o : Obj) : Below a.heap.size a (b.alloc o) := h.alloc h.size o

end Go.Proofs.YtpbgpdmffejdgaaGreatDoor.W
