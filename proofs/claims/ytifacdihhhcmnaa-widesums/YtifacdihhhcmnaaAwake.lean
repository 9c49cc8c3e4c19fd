/- The statements' own test of the chapter's examples answers true. -/
import Derived.Test.YtifacdihhhcmnaaRoot
namespace Go.Proofs.Ytifacdihhhcmnaa
open Go.RowKit

theorem bthen {a b c : World} (h : Below a.heap.size a b) (k : Below b.heap.size b c) : Below a.heap.size a c := h.trans (k.mono h.size)
theorem balloc {a b : World} (h : Below a.heap.size a b) (o : Obj) : Below a.heap.size a (b.alloc o) := h.alloc h.size o

theorem of_5 (w : World) : Calls Try.prog 23 #[.int .u64 5] w fun e w' => e = .returned (.agg #[.int .u64 (hi 5), .int .u64 (lo 5)]) ∧ Below w.heap.size w w' :=
  of_n 5 w (by omega) (by omega)
theorem of_2 (w : World) : Calls Try.prog 23 #[.int .u64 2] w fun e w' => e = .returned (.agg #[.int .u64 (hi 2), .int .u64 (lo 2)]) ∧ Below w.heap.size w w' :=
  of_n 2 w (by omega) (by omega)
theorem mul_ex (w : World) : Calls Try.prog 19 #[.int .u64 9223372036854775808, .int .u64 4] w fun e w' => e = .returned (.agg #[.int .u64 2, .int .u64 0]) ∧ Below w.heap.size w w' :=
  mul_any 9223372036854775808 4 w (by omega) (by omega) (by omega) (by omega)
theorem root_ex (w : World) : Calls Try.prog 32 #[.agg #[.int .u64 1, .int .u64 0]] w fun e w' => e = .returned (.tuple #[.int .u64 4294967296, .bool false]) ∧ Below w.heap.size w w' := by
  have h := root_n 18446744073709551616 w (by unfold W2; omega)
  refine Calls.mono (show Calls Try.prog 32 #[.agg #[.int .u64 1, .int .u64 0]] w _ from h) ?_
  rintro e w' ⟨r, rfl, h1, h2, hb⟩
  have hr : r = 4294967296 := by
    have a1 : r ≤ 4294967296 := Decidable.byContradiction fun hn => by
      have := Nat.mul_le_mul (show 4294967297 ≤ r by omega) (show 4294967297 ≤ r by omega)
      omega
    have a2 : 4294967296 ≤ r := Decidable.byContradiction fun hn => by
      have := Nat.mul_le_mul (show r + 1 ≤ 4294967296 by omega) (show r + 1 ≤ 4294967296 by omega)
      omega
    omega
  subst hr
  exact ⟨rfl, hb⟩

set_option maxHeartbeats 1000000 in
theorem awake_any (w : World) : Calls Try.prog 9 #[] w fun e w' => e = .returned (.bool true) ∧ Below w.heap.size w w' := by
  have f1 : (hi (shrN 5 1) == hi 2) = true := by decide +kernel
  have f2 : (lo (shrN 5 1) == lo 2) = true := by decide +kernel
  have f3 : lostB 5 1 = true := by decide +kernel
  go_enter Try.func9, Try.ntmps9
  go_wp2_with fail
  refine (of_5 _).mono ?_
  rintro e w1 ⟨rfl, hb1⟩
  go_wp2_with fail
  refine (right_n 5 1 _ (by unfold W2; omega)).mono ?_
  rintro e w2 ⟨rfl, hb2⟩
  rw [f3]
  go_wp2_with fail
  refine (root_ex _).mono ?_
  rintro e w3 ⟨rfl, hb3⟩
  obtain ⟨hc3, hf3⟩ := bcell hb3
  have hz3 : w2.heap.size < w3.heap.size := by have := hb3.size; first | omega | (simp at this; omega)
  go_wp2_with fail
  go_region_held3 (fun w' => w'.cell? ⟨w2.heap.size, 0, none⟩ = some (.int .u64 (hi (shrN 5 1))) ∧ w'.cell? ⟨w2.heap.size, 1, none⟩ = some (.int .u64 (lo (shrN 5 1)))) (first | exact keep2 hb5 (by first | assumption | omega | (simp; omega)) ‹_› | exact keep2 hb4 (by first | assumption | omega | (simp; omega)) ‹_› | (simp [go_sem, hc3]; done))
    (first | (go_at_call 19; refine (mul_ex _).mono ?_; rintro e w4 ⟨rfl, hb4⟩; have hz4 : w2.heap.size < w4.heap.size := by have := hb4.size; first | omega | (simp at this; omega)) | (go_at_call 23; refine (of_2 _).mono ?_; rintro e w5 ⟨rfl, hb5⟩; have hz5 : w2.heap.size < w5.heap.size := by have := hb5.size; first | omega | (simp at this; omega)))
  go_wp2
  go_ret
  exact ⟨rfl, bthen (bthen (bthen (balloc (bthen hb1 hb2) _) hb3).drew hb4) hb5⟩

end Go.Proofs.Ytifacdihhhcmnaa
