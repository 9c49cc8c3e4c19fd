/- Contracts of wide.words, fromWords, Add and Sub. -/
import Derived.Test.YtpbgpdmffejdgaaGreatDoorWWide2
import Derived.Shelf.Spec.BitsCarry
import Derived.Handy
import Derived.Test.YtpbgpdmffejdgaaGreatDoorTk
namespace Go.Proofs.YtpbgpdmffejdgaaGreatDoor.W
open Go.RowKit

theorem add64 (x y c : Int) (hx : 0 ≤ x) (hy : 0 ≤ y) (hc0 : 0 ≤ c) (hc : c ≤ 1) (w : World) : (callFunc 285 #[.int .u64 x, .int .u64 y, .int .u64 c]).run Tryz.prog w =
    .ok (.value (.tuple #[.int .u64 ((x + y + c) % 18446744073709551616), .int .u64 ((x + y + c) / 18446744073709551616)])) w := by
  rw [run_callFunc_extern Tryz.func285 (by kernel_rfl) (by kernel_rfl) (by kernel_rfl) (e := add64Entry) (by kernel_rfl), run_add64 x y c hx hy hc0 hc]
  rfl
theorem sub64 (x y b : Int) (hx : 0 ≤ x) (hy : 0 ≤ y) (hy' : y < 18446744073709551616) (hb0 : 0 ≤ b) (hb : b ≤ 1) (w : World) : (callFunc 287 #[.int .u64 x, .int .u64 y, .int .u64 b]).run Tryz.prog w =
    .ok (.value (.tuple #[.int .u64 ((x - y - b) % 18446744073709551616), .int .u64 (if x < y + b then 1 else 0)])) w := by
  obtain ⟨x, rfl⟩ := Int.eq_ofNat_of_zero_le hx
  obtain ⟨y, rfl⟩ := Int.eq_ofNat_of_zero_le hy
  obtain ⟨b, rfl⟩ := Int.eq_ofNat_of_zero_le hb0
  have e1 : (((x + 18446744073709551616 - y - b) % 18446744073709551616 : Nat) : Int) = ((x : Int) - y - b) % 18446744073709551616 := by omega
  have e2 : ((if x < y + b then 1 else 0 : Nat) : Int) = if (x : Int) < y + b then 1 else 0 := by split <;> split <;> omega
  rw [← e1, ← e2, run_callFunc_extern Tryz.func287 (by kernel_rfl) (by kernel_rfl) (by kernel_rfl) (e := sub64Entry) (by kernel_rfl), run_sub64 x y b (by omega)]
  rfl

set_option maxHeartbeats 400000 in
theorem words_any (h l : Int) (w : World) :
    Calls Tryz.prog 284 #[.agg #[.int .u64 h, .int .u64 l]] w fun e w' => e = .returned (.agg #[.int .u64 l, .int .u64 h]) ∧ Below w.heap.size w w' := by
  go_enter Tryz.func284, Tryz.ntmps284
  go_wp2
  exact bodyPost_ret (v := .agg #[.int .u64 l, .int .u64 h]) (by simp [results, Tryz.results284, go_sem]) rfl ⟨rfl, below2 _ _ _⟩

set_option maxHeartbeats 400000 in
theorem fromWords_any (l h : Int) (w : World) :
    Calls Tryz.prog 286 #[.agg #[.int .u64 l, .int .u64 h]] w fun e w' => e = .returned (.agg #[.int .u64 h, .int .u64 l]) ∧ Below w.heap.size w w' := by
  go_enter Tryz.func286, Tryz.ntmps286
  go_wp2
  exact bodyPost_ret (v := .agg #[.int .u64 h, .int .u64 l]) (by simp [results, Tryz.results286, go_sem]) rfl ⟨rfl, below2 _ _ _⟩

set_option maxHeartbeats 1000000 in
theorem add_any (ah al bh bl : Int) (w : World) (a1 : 0 ≤ ah) (b1 : 0 ≤ al) (c1 : 0 ≤ bh) (d1 : 0 ≤ bl) (b2 : al < 18446744073709551616) (d2 : bl < 18446744073709551616) :
    Calls Tryz.prog 280 #[.agg #[.int .u64 ah, .int .u64 al], .agg #[.int .u64 bh, .int .u64 bl]] w fun e w' =>
      e = .returned (.agg #[.int .u64 ((ah + bh + (al + bl) / 18446744073709551616) % 18446744073709551616), .int .u64 ((al + bl) % 18446744073709551616)]) ∧ Below w.heap.size w w' := by
  have k0 : 0 ≤ (al + bl) / 18446744073709551616 := by omega
  have k1 : (al + bl) / 18446744073709551616 ≤ 1 := by omega
  have i0 : ∀ w, (Instr.index 239 (.agg #[.int .u64 al, .int .u64 ah]) (.int .i64 0)).run Tryz.prog w = .ok (.int .u64 al) w := fun _ => by kernel_rfl
  have i1 : ∀ w, (Instr.index 239 (.agg #[.int .u64 al, .int .u64 ah]) (.int .i64 1)).run Tryz.prog w = .ok (.int .u64 ah) w := fun _ => by kernel_rfl
  have s0 := fun w => add64 al bl 0 b1 d1 (by omega) (by omega) w
  have s1 := fun w => add64 ah bh _ a1 c1 k0 k1 w
  simp only [Int.add_zero] at s0
  go_enter Tryz.func280, Tryz.ntmps280
  go_wp2_with fail
  refine (words_any bh bl _).mono ?_
  rintro e w1 ⟨rfl, hb1⟩
  have q0 : w1.cell? ⟨w.heap.size, 0, none⟩ = some (.int .u64 ah) := by rw [hb1.cell (by first | (simp; done) | (simp; omega))]; simp [go_sem]
  have q1 : w1.cell? ⟨w.heap.size, 1, none⟩ = some (.int .u64 al) := by rw [hb1.cell (by first | (simp; done) | (simp; omega))]; simp [go_sem]
  have r0 : w1.cell? ⟨w.heap.size + 1 + 1, 0, none⟩ = some (.int .u64 0) := by rw [hb1.cell (by first | (simp; done) | (simp; omega))]; simp [go_sem]
  have r1 : w1.cell? ⟨w.heap.size + 1 + 1, 1, none⟩ = some (.int .u64 0) := by rw [hb1.cell (by first | (simp; done) | (simp; omega))]; simp [go_sem]
  have f0 : w1.frozen? ⟨w.heap.size + 1 + 1, 0, none⟩ = false := by rw [hb1.frozen (by first | (simp; done) | (simp; omega))]; simp [go_sem]
  have f1 : w1.frozen? ⟨w.heap.size + 1 + 1, 1, none⟩ = false := by rw [hb1.frozen (by first | (simp; done) | (simp; omega))]; simp [go_sem]
  have hz1 : w.heap.size + 1 + 1 < w1.heap.size := by have := hb1.size; simp at this; omega
  have hz1' : w.heap.size < w1.heap.size := by omega
  go_wp2_with fail
  refine (words_any ah al _).mono ?_
  rintro e w2 ⟨rfl, hb2⟩
  obtain ⟨hc2, hf2⟩ := bcell hb2
  have hz2 : w1.heap.size + 1 < w2.heap.size := by have := hb2.size; simp at this; omega
  go_wp2_with fail
  refine wp_loop_rounds 3 ?_
  rw [rounds_succ]
  go_wp2_with (first | simp only [s0] | simp only [s1])
  rw [rounds_succ]
  go_wp2_with (first | simp only [s0] | simp only [s1])
  rw [rounds_succ]
  go_wp2_with fail
  refine (fromWords_any _ _ _).mono ?_
  rintro e w3 ⟨rfl, hb3⟩
  have hB : Below w1.heap.size w1 w3 := bthen (((bthen (below2 _ _ _) hb2).setCell (p := ⟨w1.heap.size + 1, 0, none⟩) (by simp) _).setCell (p := ⟨w1.heap.size + 1, 1, none⟩) (by simp) _) hb3
  have t0 : w3.cell? ⟨w.heap.size + 1 + 1, 0, none⟩ = some (.int .u64 0) := by rw [hB.cell (by simpa using hz1)]; exact r0
  have t1 : w3.cell? ⟨w.heap.size + 1 + 1, 1, none⟩ = some (.int .u64 0) := by rw [hB.cell (by simpa using hz1)]; exact r1
  have x0 : w3.frozen? ⟨w.heap.size + 1 + 1, 0, none⟩ = false := by rw [hB.frozen (by simpa using hz1)]; exact f0
  have x1 : w3.frozen? ⟨w.heap.size + 1 + 1, 1, none⟩ = false := by rw [hB.frozen (by simpa using hz1)]; exact f1
  go_wp2
  refine bodyPost_ret (v := .agg #[.int .u64 ((ah + bh + (al + bl) / 18446744073709551616) % 18446744073709551616), .int .u64 ((al + bl) % 18446744073709551616)]) ?_ rfl ⟨rfl, ?_⟩
  · simp [results, Tryz.results280, go_sem, t0, t1]
  · exact ((bthen (bthen (balloc (below2 _ _ _) _) hb1) hB).setCell (by simp; omega) _).setCell (by simp; omega) _

/-- The borrow of a difference. -/
def bor (x y : Int) : Int := if x < y then 1 else 0
theorem sub64b (x y b : Int) (hx : 0 ≤ x) (hy : 0 ≤ y) (hy' : y < 18446744073709551616) (hb0 : 0 ≤ b) (hb : b ≤ 1) (w : World) : (callFunc 287 #[.int .u64 x, .int .u64 y, .int .u64 b]).run Tryz.prog w =
    .ok (.value (.tuple #[.int .u64 ((x - y - b) % 18446744073709551616), .int .u64 (bor x (y + b))])) w := sub64 x y b hx hy hy' hb0 hb w

set_option maxHeartbeats 1000000 in
theorem sub_any (ah al bh bl : Int) (w : World) (a1 : 0 ≤ ah) (b1 : 0 ≤ al) (c1 : 0 ≤ bh) (d1 : 0 ≤ bl) (c2 : bh < 18446744073709551616) (d2 : bl < 18446744073709551616) :
    Calls Tryz.prog 281 #[.agg #[.int .u64 ah, .int .u64 al], .agg #[.int .u64 bh, .int .u64 bl]] w fun e w' =>
      e = .returned (.agg #[.int .u64 ((ah - bh - bor al bl) % 18446744073709551616), .int .u64 ((al - bl) % 18446744073709551616)]) ∧ Below w.heap.size w w' := by
  have k0 : 0 ≤ bor al bl := by unfold bor; split <;> omega
  have k1 : bor al bl ≤ 1 := by unfold bor; split <;> omega
  have i0 : ∀ w, (Instr.index 239 (.agg #[.int .u64 al, .int .u64 ah]) (.int .i64 0)).run Tryz.prog w = .ok (.int .u64 al) w := fun _ => by kernel_rfl
  have i1 : ∀ w, (Instr.index 239 (.agg #[.int .u64 al, .int .u64 ah]) (.int .i64 1)).run Tryz.prog w = .ok (.int .u64 ah) w := fun _ => by kernel_rfl
  have s0 := fun w => sub64b al bl 0 b1 d1 d2 (by omega) (by omega) w
  have s1 := fun w => sub64b ah bh _ a1 c1 c2 k0 k1 w
  simp only [Int.add_zero, Int.sub_zero] at s0
  go_enter Tryz.func281, Tryz.ntmps281
  go_wp2_with fail
  refine (words_any bh bl _).mono ?_
  rintro e w1 ⟨rfl, hb1⟩
  have q0 : w1.cell? ⟨w.heap.size, 0, none⟩ = some (.int .u64 ah) := by rw [hb1.cell (by first | (simp; done) | (simp; omega))]; simp [go_sem]
  have q1 : w1.cell? ⟨w.heap.size, 1, none⟩ = some (.int .u64 al) := by rw [hb1.cell (by first | (simp; done) | (simp; omega))]; simp [go_sem]
  have r0 : w1.cell? ⟨w.heap.size + 1 + 1, 0, none⟩ = some (.int .u64 0) := by rw [hb1.cell (by first | (simp; done) | (simp; omega))]; simp [go_sem]
  have r1 : w1.cell? ⟨w.heap.size + 1 + 1, 1, none⟩ = some (.int .u64 0) := by rw [hb1.cell (by first | (simp; done) | (simp; omega))]; simp [go_sem]
  have f0 : w1.frozen? ⟨w.heap.size + 1 + 1, 0, none⟩ = false := by rw [hb1.frozen (by first | (simp; done) | (simp; omega))]; simp [go_sem]
  have f1 : w1.frozen? ⟨w.heap.size + 1 + 1, 1, none⟩ = false := by rw [hb1.frozen (by first | (simp; done) | (simp; omega))]; simp [go_sem]
  have hz1 : w.heap.size + 1 + 1 < w1.heap.size := by have := hb1.size; simp at this; omega
  have hz1' : w.heap.size < w1.heap.size := by omega
  go_wp2_with fail
  refine (words_any ah al _).mono ?_
  rintro e w2 ⟨rfl, hb2⟩
  obtain ⟨hc2, hf2⟩ := bcell hb2
  have hz2 : w1.heap.size + 1 < w2.heap.size := by have := hb2.size; simp at this; omega
  go_wp2_with fail
  refine wp_loop_rounds 3 ?_
  rw [rounds_succ]
  go_wp2_with (first | simp only [s0] | simp only [s1])
  rw [rounds_succ]
  go_wp2_with (first | simp only [s0] | simp only [s1])
  rw [rounds_succ]
  go_wp2_with fail
  refine (fromWords_any _ _ _).mono ?_
  rintro e w3 ⟨rfl, hb3⟩
  have hB : Below w1.heap.size w1 w3 := bthen (((bthen (below2 _ _ _) hb2).setCell (p := ⟨w1.heap.size + 1, 0, none⟩) (by simp) _).setCell (p := ⟨w1.heap.size + 1, 1, none⟩) (by simp) _) hb3
  have t0 : w3.cell? ⟨w.heap.size + 1 + 1, 0, none⟩ = some (.int .u64 0) := by rw [hB.cell (by simpa using hz1)]; exact r0
  have t1 : w3.cell? ⟨w.heap.size + 1 + 1, 1, none⟩ = some (.int .u64 0) := by rw [hB.cell (by simpa using hz1)]; exact r1
  have x0 : w3.frozen? ⟨w.heap.size + 1 + 1, 0, none⟩ = false := by rw [hB.frozen (by simpa using hz1)]; exact f0
  have x1 : w3.frozen? ⟨w.heap.size + 1 + 1, 1, none⟩ = false := by rw [hB.frozen (by simpa using hz1)]; exact f1
  go_wp2
  refine bodyPost_ret (v := .agg #[.int .u64 ((ah - bh - bor al bl) % 18446744073709551616), .int .u64 ((al - bl) % 18446744073709551616)]) ?_ rfl ⟨rfl, ?_⟩
  · simp [results, Tryz.results281, go_sem, t0, t1]
  · exact ((bthen (bthen (balloc (below2 _ _ _) _) hb1) hB).setCell (by simp; omega) _).setCell (by simp; omega) _

/-- Sums and differences of numbers below 2^128. -/
def addN (v u : Nat) : Nat := (v + u) % 340282366920938463463374607431768211456
def subN (v u : Nat) : Nat := (v + (340282366920938463463374607431768211456 - u)) % 340282366920938463463374607431768211456
theorem addN_w (v u : Nat) : W2 (addN v u) := Nat.mod_lt _ (by omega)
theorem subN_w (v u : Nat) : W2 (subN v u) := Nat.mod_lt _ (by omega)

theorem add_n (v u : Nat) (w : World) :
    Calls Tryz.prog 280 #[.agg #[.int .u64 (hi v), .int .u64 (lo v)], .agg #[.int .u64 (hi u), .int .u64 (lo u)]] w fun e w' => e = .returned (.agg #[.int .u64 (hi (addN v u)), .int .u64 (lo (addN v u))]) ∧ Below w.heap.size w w' := by
  have h := add_any (hi v) (lo v) (hi u) (lo u) w (hi_0 v) (lo_0 v) (hi_0 u) (lo_0 u) (lo_1 v) (lo_1 u)
  have e1 : hi (addN v u) = (hi v + hi u + (lo v + lo u) / 18446744073709551616) % 18446744073709551616 := by unfold hi lo addN; omega
  have e2 : lo (addN v u) = (lo v + lo u) % 18446744073709551616 := by unfold lo addN; omega
  rw [e1, e2]
  exact h

theorem sub_n (v u : Nat) (w : World) (hu : W2 u) :
    Calls Tryz.prog 281 #[.agg #[.int .u64 (hi v), .int .u64 (lo v)], .agg #[.int .u64 (hi u), .int .u64 (lo u)]] w fun e w' => e = .returned (.agg #[.int .u64 (hi (subN v u)), .int .u64 (lo (subN v u))]) ∧ Below w.heap.size w w' := by
  have h := sub_any (hi v) (lo v) (hi u) (lo u) w (hi_0 v) (lo_0 v) (hi_0 u) (lo_0 u) (hi_1 hu) (lo_1 u)
  unfold W2 at hu
  have e1 : hi (subN v u) = (hi v - hi u - bor (lo v) (lo u)) % 18446744073709551616 := by
    unfold hi lo subN bor
    by_cases c : ((v % 18446744073709551616 : Nat) : Int) < ((u % 18446744073709551616 : Nat) : Int)
    · rw [if_pos c]; omega
    · rw [if_neg c]; omega
  have e2 : lo (subN v u) = (lo v - lo u) % 18446744073709551616 := by unfold lo subN; omega
  rw [e1, e2]
  exact h

end Go.Proofs.YtpbgpdmffejdgaaGreatDoor.W
