/- The statement WideDivs: its walk. -/
import Derived.Test.YtifacdihhhcmnaaDiv
import Derived.Test.YtifacdihhhcmnaaRefI
namespace Go.Proofs.Ytifacdihhhcmnaa
open Go.RowKit

set_option maxRecDepth 100000 in
set_option maxHeartbeats 2000000 in
theorem divs_any (v : Nat) (b : Int) (w : World) (hv : W2 v) (b0 : 0 ≤ b) (b1 : b < 18446744073709551616) :
    Calls Try.prog 5 #[.agg #[.int .u64 (hi v), .int .u64 (lo v)], .int .u64 b] w fun e w' => e = .returned (.bool true) ∧ Below w.heap.size w w' := by
  by_cases hb : b = 0
  · subst hb
    clear b0 b1
    go_enter Try.func5, Try.ntmps5
    go_wp2_with fail
    refine (awake_any _).mono ?_
    rintro e w1 ⟨rfl, hb1⟩
    obtain ⟨q0, q1⟩ : w1.cell? ⟨w.heap.size, 0, none⟩ = some (.int .u64 (hi v)) ∧ w1.cell? ⟨w.heap.size, 1, none⟩ = some (.int .u64 (lo v)) := keep2 hb1 (by simp) (by simp [go_sem])
    go_wp2_with fail
    refine (div_zero v _).mono ?_
    rintro e w2 ⟨rfl, hb2⟩
    go_wp2_with fail
    go_ret
    exact ⟨rfl, balloc (bthen (bthen (below1 _ _) hb1) hb2) _⟩
  · have n0 : (b == 0) = false := by rw [beq_eq_false_iff_ne]; omega
    have HB0 := hide (show 0 < b by omega); have HB1 := hide b1
    have HBn := hide (show b.toNat ≠ 0 by omega)
    have HW := hide (show v / b.toNat < 340282366920938463463374607431768211456 from Nat.lt_of_le_of_lt (Nat.div_le_self _ _) hv)
    have HR := hide (show v % b.toNat < 18446744073709551616 by have := Nat.mod_lt v (show 0 < b.toNat by omega); omega)
    obtain ⟨Q, hQ⟩ : ∃ Q, v / b.toNat = Q := ⟨_, rfl⟩
    obtain ⟨R, hRR⟩ : ∃ R, v % b.toNat = R := ⟨_, rfl⟩
    rw [hQ] at HW
    rw [hRR] at HR
    have HQ := hide hQ; have HRR := hide hRR
    clear hb b1 b0 hQ hRR
    go_enter Try.func5, Try.ntmps5
    go_wp2_with fail
    refine (awake_any _).mono ?_
    rintro e w1 ⟨rfl, hb1⟩
    obtain ⟨q0, q1⟩ : w1.cell? ⟨w.heap.size, 0, none⟩ = some (.int .u64 (hi v)) ∧ w1.cell? ⟨w.heap.size, 1, none⟩ = some (.int .u64 (lo v)) := keep2 hb1 (by simp) (by simp [go_sem])
    have hz1 : w.heap.size < w1.heap.size := by have := hb1.size; simp at this; omega
    go_wp2_with fail
    refine (div_n v b _ hv (unhide HB0) (unhide HB1)).mono ?_
    rintro e w2 ⟨rfl, hb2⟩
    rw [unhide HQ, unhide HRR]
    obtain ⟨r0, r1⟩ := keep2 hb2 hz1 ⟨q0, q1⟩
    have hz2 : w.heap.size < w2.heap.size := by have := hb2.size; omega
    go_wp2_with fail
    refine (nat_any v _ hv).mono ?_
    rintro e w3 ⟨s3, rfl, hN3, hb3⟩
    obtain ⟨a3, n3, c3, rfl⟩ := hN3.slice
    have H3 := hide hN3
    clear hN3
    go_wp2_with fail
    refine (refOf_any b _ (by have := unhide HB0; omega) (unhide HB1)).mono ?_
    rintro e w4 ⟨s4, rfl, hN4, hb4⟩
    obtain ⟨a4, n4, c4, rfl⟩ := hN4.slice
    have H4 := hide hN4; have H34 := hide ((unhide H3).below hb4)
    clear hN4
    go_wp2_with fail
    refine (refDiv_any a3 a4 n3 c3 n4 c4 v b.toNat _ (unhide H34) (unhide H4) (unhide HBn) (lt_pw (k := 4) 20 (by rw [pw_4]; exact hv) (by omega)) (lt_pw (k := 2) 20 (by rw [pw_2]; have := unhide HB1; omega) (by omega))).mono ?_
    rintro e w5 ⟨s5, s6, rfl, hN5, hN6, hb5⟩
    rw [unhide HQ] at hN5
    rw [unhide HRR] at hN6
    obtain ⟨a5, n5, c5, rfl⟩ := hN5.slice
    obtain ⟨a6, n6, c6, rfl⟩ := hN6.slice
    have B25 : Below w2.heap.size w2 w5 := bthen (bthen (bthen (below1 w2 (.cells #[.int .u64 (hi Q), .int .u64 (lo Q)] 24)) hb3) hb4) hb5
    have hqq : w5.cell? ⟨w2.heap.size, 0, none⟩ = some (.int .u64 (hi Q)) ∧ w5.cell? ⟨w2.heap.size, 1, none⟩ = some (.int .u64 (lo Q)) := keep2 (bthen (bthen hb3 hb4) hb5) (by simp) (by simp [go_sem])
    have hz5 : w2.heap.size < w5.heap.size := by have := (bthen (bthen hb3 hb4) hb5).size; simp at this; omega
    obtain ⟨x0, x1⟩ := hqq
    have H5 := hide hN5; have H6 := hide hN6
    have HBB := hide (bthen (bthen (bthen (below1 w (.cells #[.int .u64 (hi v), .int .u64 (lo v)] 24)) hb1) hb2) B25)
    clear hN5 hN6 hb3 hb4 hb5 B25 q0 q1 r0 r1 H3 H4 H34
    go_wp2_with fail
    refine (is_any a5 n5 c5 Q _ (((unhide H5).alloc _).alloc _) (unhide HW)).mono ?_
    rintro e w6 ⟨rfl, hb6⟩
    have y6 : w6.cell? ⟨w5.heap.size + 1, 0, none⟩ = some (.slice a6 n6 c6) := by rw [hb6.cell (by simp)]; simp [go_sem]
    have H66 := hide ((((unhide H6).alloc _).alloc _).below hb6)
    have hR : ((R : Int) == lo R) = true := by rw [lo_small (unhide HR)]; simp
    go_wp2_with fail
    refine (uint_any a6 n6 c6 R _ (unhide H66)).mono ?_
    rintro e w7 ⟨rfl, hb7⟩
    go_wp2_with fail
    go_ret
    exact ⟨rfl, bthen (bthen (balloc (balloc (unhide HBB) _) _) hb6) hb7⟩

end Go.Proofs.Ytifacdihhhcmnaa
