/- The statement WideLens: its walk. -/
import Derived.Test.YtifacdihhhcmnaaAwake
namespace Go.Proofs.Ytifacdihhhcmnaa
open Go.RowKit

theorem keep2' {W w' : World} {b : Nat} {x y : Value} (hb : Below W.heap.size W w') (h : W.cell? ⟨b, 0, none⟩ = some x ∧ W.cell? ⟨b, 1, none⟩ = some y) (hz : b < W.heap.size) :
    w'.cell? ⟨b, 0, none⟩ = some x ∧ w'.cell? ⟨b, 1, none⟩ = some y := keep2 hb hz h

set_option maxHeartbeats 2000000 in
theorem lens_same (v : Nat) (n : Int) (w : World) (hv : W2 v) (ht : n < 0 ∨ (¬ n < 0 ∧ 128 < n) ∨ (¬ n < 0 ∧ ¬ 128 < n ∧ ((Go.bitLen v : Int) == 0) = true))
    (p1 : (hi (shlN v n) == hi v) = true) (p2 : (lo (shlN v n) == lo v) = true) :
    Calls Try.prog 8 #[.agg #[.int .u64 (hi v), .int .u64 (lo v)], .int .i64 n] w fun e w' => e = .returned (.bool true) ∧ Below w.heap.size w w' := by
  rcases ht with t1 | ⟨t1, t2⟩ | ⟨t1, t2, t3⟩
  all_goals
    go_enter Try.func8, Try.ntmps8
    go_wp2_with fail
    refine (awake_any _).mono ?_
    rintro e w1 ⟨rfl, hb1⟩
    have q : w1.cell? ⟨w.heap.size, 0, none⟩ = some (.int .u64 (hi v)) ∧ w1.cell? ⟨w.heap.size, 1, none⟩ = some (.int .u64 (lo v)) := keep2 hb1 (by simp) (by simp [go_sem])
    have hz1 : w.heap.size < w1.heap.size := by have := hb1.size; simp at this; omega
    obtain ⟨q0, q1⟩ := q
    go_wp2_with fail
    refine (len_n v _ hv).mono ?_
    rintro e w2 ⟨rfl, hb2⟩
    obtain ⟨r0, r1⟩ := keep2 hb2 hz1 ⟨q0, q1⟩
    have hz2 : w.heap.size < w2.heap.size := by have := hb2.size; omega
    go_wp2_with fail
    first | go_region_with (go_at_call 26; refine (left_n v n _ hv).mono ?_; rintro e w3 ⟨rfl, hb3⟩; obtain ⟨s0, s1⟩ := keep2 hb3 (b := w.heap.size) (x := .int .u64 (hi v)) (y := .int .u64 (lo v)) (by first | assumption | omega | (simp; omega)) ⟨by simp [go_sem, r0], by simp [go_sem, r1]⟩) | fail
    all_goals
      go_wp2
      go_ret
      exact ⟨rfl, bthen (bthen (bthen (below1 _ _) hb1) hb2).drew hb3⟩

theorem retb {a b : Bool} (h : a = b) : Ending.returned (.bool a) = .returned (.bool b) := by rw [h]

set_option maxHeartbeats 1000000 in
theorem lens_other (v : Nat) (n : Int) (w : World) (hv : W2 v) (t1 : ¬ n < 0) (t2 : 128 < n)
    (hq : (hi (shlN v n) == hi v) = true ∧ (lo (shlN v n) == lo v) = false ∨ (hi (shlN v n) == hi v) = false) :
    Calls Try.prog 8 #[.agg #[.int .u64 (hi v), .int .u64 (lo v)], .int .i64 n] w fun e w' => e = .returned (.bool true) ∧ Below w.heap.size w w' := by
  rcases hq with ⟨p1, p2⟩ | p1
  all_goals
    go_enter Try.func8, Try.ntmps8
    go_wp2_with fail
    refine (awake_any _).mono ?_
    rintro e w1 ⟨rfl, hb1⟩
    have q : w1.cell? ⟨w.heap.size, 0, none⟩ = some (.int .u64 (hi v)) ∧ w1.cell? ⟨w.heap.size, 1, none⟩ = some (.int .u64 (lo v)) := keep2 hb1 (by simp) (by simp [go_sem])
    have hz1 : w.heap.size < w1.heap.size := by have := hb1.size; simp at this; omega
    obtain ⟨q0, q1⟩ := q
    go_wp2_with fail
    refine (len_n v _ hv).mono ?_
    rintro e w2 ⟨rfl, hb2⟩
    obtain ⟨r0, r1⟩ := keep2 hb2 hz1 ⟨q0, q1⟩
    have hz2 : w.heap.size < w2.heap.size := by have := hb2.size; omega
    go_wp2_with fail
    go_region_held3 (fun w' => w'.cell? ⟨w.heap.size, 0, none⟩ = some (.int .u64 (hi v)) ∧ w'.cell? ⟨w.heap.size, 1, none⟩ = some (.int .u64 (lo v))) (first | exact keep2 hb3 (by first | assumption | omega | (simp; omega)) ‹_› | (simp [go_sem, r0, r1]; done))
      (first | (go_at_call 26; refine (left_n v n _ hv).mono ?_; rintro e w3 ⟨rfl, hb3⟩))
    go_wp2
    go_ret
    exact ⟨retb (by simp; omega), bthen (bthen (bthen (below1 _ _) hb1) hb2).drew hb3⟩

end Go.Proofs.Ytifacdihhhcmnaa
