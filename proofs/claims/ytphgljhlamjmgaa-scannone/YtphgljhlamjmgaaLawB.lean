/- The law's read: anything, by the program and by the document. -/
import Derived.Test.YtphgljhlamjmgaaLawA
namespace Go.Proofs.Ytphgljhlamjmgaa
open Go.RowKit

set_option maxHeartbeats 1000000 in
set_option maxRecDepth 100000 in
theorem read_11 {pv qv : Value} {I0 I1 I2 : World → Prop} {n : Int} {x y : Lm} {W : World} (HU : Ds 16 #[pv] I0 I1 (lmV x)) (HV : Ds 18 #[qv] I1 I2 (lmV y))
    (HI : Hid (I0 (W.alloc (.cells #[.int .i64 11, .int .i64 n] 31)))) :
    Calls Try.prog 9 #[pv, qv, .agg #[.int .i64 11, .int .i64 n]] W fun r w' => (∃ t, r = .returned (.bool t) ∧ (x = y → t = true)) ∧ I2 w' := by
  obtain ⟨x1, x2, x3⟩ := x
  obtain ⟨y1, y2, y3⟩ := y
  unfold lmV at HU HV
  dsimp only at HU HV
  go_enter Try.func9, Try.ntmps9
  go_wp2_with fail
  refine (unhide HU _ (unhide HI)).mono ?_
  rintro _ w1 ⟨rfl, hI⟩
  have HI := hide hI
  clear hI
  go_wp2_with fail
  refine (unhide HV _ (unhide HI)).mono ?_
  rintro _ w2 ⟨rfl, hI⟩
  have HI := hide hI
  clear hI
  go_wp2_with fail
  all_goals
    go_ret
    exact ⟨⟨_, rfl, fun h => by first | rfl | (injection h with h1 h2; injection h2 with h2 h3; first | exact absurd h1 ‹_› | exact absurd h2 ‹_› | exact absurd h3 ‹_›)⟩, unhide HI⟩
set_option maxHeartbeats 1000000 in
set_option maxRecDepth 100000 in
theorem read_13 {pv qv : Value} {I0 I1 I2 : World → Prop} {n : Int} {x y : Lm} {W : World} (HU : Ds 21 #[pv] I0 I1 (lmV x)) (HV : Ds 22 #[qv] I1 I2 (lmV y))
    (HI : Hid (I0 (W.alloc (.cells #[.int .i64 13, .int .i64 n] 31)))) :
    Calls Try.prog 9 #[pv, qv, .agg #[.int .i64 13, .int .i64 n]] W fun r w' => (∃ t, r = .returned (.bool t) ∧ (x = y → t = true)) ∧ I2 w' := by
  obtain ⟨x1, x2, x3⟩ := x
  obtain ⟨y1, y2, y3⟩ := y
  unfold lmV at HU HV
  dsimp only at HU HV
  go_enter Try.func9, Try.ntmps9
  go_wp2_with fail
  refine (unhide HU _ (unhide HI)).mono ?_
  rintro _ w1 ⟨rfl, hI⟩
  have HI := hide hI
  clear hI
  go_wp2_with fail
  refine (unhide HV _ (unhide HI)).mono ?_
  rintro _ w2 ⟨rfl, hI⟩
  have HI := hide hI
  clear hI
  go_wp2_with fail
  all_goals
    go_ret
    exact ⟨⟨_, rfl, fun h => by first | rfl | (injection h with h1 h2; injection h2 with h2 h3; first | exact absurd h1 ‹_› | exact absurd h2 ‹_› | exact absurd h3 ‹_›)⟩, unhide HI⟩
set_option maxHeartbeats 1000000 in
set_option maxRecDepth 100000 in
theorem read_12 {pv qv : Value} {q : Nat} {I0 I1 I2 : World → Prop} {n : Int} {x y : Int × Bool} {W : World} (HU : Ds 19 #[pv] I0 I1 (glV x)) (HV : Hid (∀ w, I1 w → Calls Try.prog 20 #[qv] w fun r w' => r = .returned (.tuple #[.int .u8 y.1, .bool y.2]) ∧ I2 w' ∧ Fr [q] w w'))
    (HA : Hid (∀ w o, I1 w → I1 (w.alloc o))) (HQ : Hid (∀ w, I1 w → q < w.heap.size)) (HI : Hid (I0 (W.alloc (.cells #[.int .i64 12, .int .i64 n] 31)))) :
    Calls Try.prog 9 #[pv, qv, .agg #[.int .i64 12, .int .i64 n]] W fun r w' => (∃ t, r = .returned (.bool t) ∧ (x = y → t = true)) ∧ I2 w' := by
  obtain ⟨x1, x2⟩ := x
  obtain ⟨y1, y2⟩ := y
  unfold glV at HU
  dsimp only at HU HV
  go_enter Try.func9, Try.ntmps9
  go_wp2_with fail
  refine (unhide HU _ (unhide HI)).mono ?_
  rintro _ w1 ⟨rfl, hI⟩
  have hq := unhide HQ _ hI
  have HI := hide (unhide HA _ (.cells #[.int .u8 x1, .bool x2] 58) hI)
  have HG : Hid (At2 w1.heap.size (.int .u8 x1) (.bool x2) (w1.alloc (.cells #[.int .u8 x1, .bool x2] 58))) := hide (by unfold At2; simp [go_sem])
  clear hI
  go_wp2_with fail
  refine (unhide HV _ (unhide HI)).mono ?_
  rintro _ w2 ⟨rfl, hI, hF⟩
  have HI := hide hI
  obtain ⟨g0, g1⟩ := (unhide HG).fr hF (by simp; omega)
  clear hI hF
  go_wp2_with fail
  all_goals
    go_ret
    exact ⟨⟨_, rfl, fun h => by first | rfl | (injection h with h1 h2; first | exact absurd h1 ‹_› | exact absurd h2 ‹_›)⟩, unhide HI⟩
set_option maxHeartbeats 1000000 in
set_option maxRecDepth 100000 in
theorem read_14 {pv qv : Value} {q : Nat} {I0 I1 I2 : World → Prop} {n : Int} {x y : List Int × List Int} {W : World}
    (HU : Hid (∀ w, I0 w → Calls Try.prog 15 #[pv] w fun r w' => ∃ x1 x2 x3 y1 y2 y3, r = .returned (.agg #[.slice x1 x2 x3, .slice y1 y2 y3]) ∧ Nw w.heap.size x1 x2 x3 x.1 w' ∧ Nw w.heap.size y1 y2 y3 x.2 w' ∧ I1 w'))
    (HV : Hid (∀ w, I1 w → Calls Try.prog 23 #[qv] w fun r w' => ∃ x1 x2 x3 y1 y2 y3, r = .returned (.tuple #[.slice x1 x2 x3, .slice y1 y2 y3]) ∧ Sl w' x1 x2 x3 y.1 ∧ Sl w' y1 y2 y3 y.2 ∧ I2 w' ∧ Fr [q] w w'))
    (HA : Hid (∀ w o, I1 w → I1 (w.alloc o))) (HQ : Hid (q < W.heap.size)) (HZ : Hid (∀ w, I1 w → W.heap.size ≤ w.heap.size)) (HI : Hid (I0 (W.alloc (.cells #[.int .i64 14, .int .i64 n] 31)))) :
    Calls Try.prog 9 #[pv, qv, .agg #[.int .i64 14, .int .i64 n]] W fun r w' => (∃ t, r = .returned (.bool t) ∧ (x = y → t = true)) ∧ I2 w' := by
  obtain ⟨xs1, xs2⟩ := x
  obtain ⟨ys1, ys2⟩ := y
  dsimp only at HU HV
  go_enter Try.func9, Try.ntmps9
  go_wp2_with fail
  refine (unhide HU _ (unhide HI)).mono ?_
  rintro _ w1 ⟨x1, x2, x3, y1, y2, y3, rfl, hN1, hN2, hI⟩
  have hz := unhide HZ _ hI
  have hq := unhide HQ
  have HN1 := hide ((hN1.mono (m := W.heap.size) (by simp)).bel (below1 w1 (.cells #[.slice x1 x2 x3, .slice y1 y2 y3] 48)))
  have HN2 := hide ((hN2.mono (m := W.heap.size) (by simp)).bel (below1 w1 (.cells #[.slice x1 x2 x3, .slice y1 y2 y3] 48)))
  have HI := hide (unhide HA _ (.cells #[.slice x1 x2 x3, .slice y1 y2 y3] 48) hI)
  have HG : Hid (At2 w1.heap.size (.slice x1 x2 x3) (.slice y1 y2 y3) (w1.alloc (.cells #[.slice x1 x2 x3, .slice y1 y2 y3] 48))) := hide (by unfold At2; simp [go_sem])
  clear hI hN1 hN2
  go_wp2_with fail
  refine (unhide HV _ (unhide HI)).mono ?_
  rintro _ w2 ⟨u1, u2, u3, v1, v2, v3, rfl, hS1, hS2, hI, hF⟩
  have HI := hide hI
  obtain ⟨g0, g1⟩ := (unhide HG).fr hF (by simp; omega)
  have hc1 := conv_run ((unhide HN1).fr hF (by simp; omega)).1
  have hc2 := conv_run ((unhide HN2).fr hF (by simp; omega)).1
  have hc3 := conv_run hS1
  have hc4 := conv_run hS2
  clear hI hF hS1 hS2
  by_cases he : strOfNums xs1 = strOfNums ys1
  · rw [he] at hc1
    go_wp2_with fail
    go_ret
    exact ⟨⟨_, rfl, fun h => by injection h with h1 h2; subst h1 h2; simp⟩, unhide HI⟩
  · go_wp2_with fail
    all_goals
      go_ret
      exact ⟨⟨_, rfl, fun h => by injection h with h1 h2; subst h1; exact absurd rfl he⟩, unhide HI⟩
set_option maxHeartbeats 1000000 in
set_option maxRecDepth 100000 in
theorem read_15z {pv qv : Value} {I0 I2 : World → Prop} {n : Int} {W : World} (hn : n ≤ 0) (HU : Ds 13 #[pv, .int .i64 0] I0 I2 (.tuple #[]))
    (HI : Hid (I0 (W.alloc (.cells #[.int .i64 15, .int .i64 n] 31)))) :
    Calls Try.prog 9 #[pv, qv, .agg #[.int .i64 15, .int .i64 n]] W fun r w' => r = .returned (.bool true) ∧ I2 w' := by
  have g1 : ¬ 0 < n := by omega
  go_enter Try.func9, Try.ntmps9
  go_wp2_with fail
  refine (unhide HU _ (unhide HI)).mono ?_
  rintro _ w1 ⟨rfl, hI⟩
  have HI := hide hI
  clear hI
  go_wp2_with fail
  go_ret
  exact ⟨rfl, unhide HI⟩
set_option maxHeartbeats 1000000 in
set_option maxRecDepth 100000 in
theorem read_15in {pv qv : Value} {I0 I1 I2 : World → Prop} {n : Int} {W : World} (h0 : 0 < n) (h1 : n ≤ 1000) (HU : Ds 13 #[pv, .int .i64 n] I0 I1 (.tuple #[])) (HV : Ds 24 #[qv, .int .i64 n] I1 I2 (.tuple #[]))
    (HI : Hid (I0 (W.alloc (.cells #[.int .i64 15, .int .i64 n] 31)))) :
    Calls Try.prog 9 #[pv, qv, .agg #[.int .i64 15, .int .i64 n]] W fun r w' => r = .returned (.bool true) ∧ I2 w' := by
  have d : (n != 0) = true := bne_iff_ne.2 (by omega)
  have g1 : ¬ n ≤ 0 := by omega
  go_enter Try.func9, Try.ntmps9
  go_wp2_with fail
  refine (unhide HU _ (unhide HI)).mono ?_
  rintro _ w1 ⟨rfl, hI⟩
  have HI := hide hI
  clear hI
  go_wp2_with fail
  refine (unhide HV _ (unhide HI)).mono ?_
  rintro _ w2 ⟨rfl, hI⟩
  have HI := hide hI
  clear hI
  go_wp2_with fail
  go_ret
  exact ⟨rfl, unhide HI⟩
set_option maxHeartbeats 1000000 in
set_option maxRecDepth 100000 in
theorem read_15hi {pv qv : Value} {I0 I1 I2 : World → Prop} {n : Int} {W : World} (hn : 1000 < n) (HU : Ds 13 #[pv, .int .i64 1000] I0 I1 (.tuple #[])) (HV : Ds 24 #[qv, .int .i64 1000] I1 I2 (.tuple #[]))
    (HI : Hid (I0 (W.alloc (.cells #[.int .i64 15, .int .i64 n] 31)))) :
    Calls Try.prog 9 #[pv, qv, .agg #[.int .i64 15, .int .i64 n]] W fun r w' => r = .returned (.bool true) ∧ I2 w' := by
  go_enter Try.func9, Try.ntmps9
  go_wp2_with fail
  refine (unhide HU _ (unhide HI)).mono ?_
  rintro _ w1 ⟨rfl, hI⟩
  have HI := hide hI
  clear hI
  go_wp2_with fail
  refine (unhide HV _ (unhide HI)).mono ?_
  rintro _ w2 ⟨rfl, hI⟩
  have HI := hide hI
  clear hI
  go_wp2_with fail
  go_ret
  exact ⟨rfl, unhide HI⟩
set_option maxHeartbeats 1000000 in
set_option maxRecDepth 100000 in
theorem read_s {pv qv : Value} {I0 I2 : World → Prop} {T : Bool → Prop} {K n : Int} {W : World} (h1 : 1 ≤ K) (h2 : K ≤ 10) (HU : Hid (∀ w, I0 w → Calls Try.prog 25 #[pv, qv, .agg #[.int .i64 K, .int .i64 n]] w fun r w' => (∃ t, r = .returned (.bool t) ∧ T t) ∧ I2 w'))
    (HI : Hid (I0 (W.alloc (.cells #[.int .i64 K, .int .i64 n] 31)))) :
    Calls Try.prog 9 #[pv, qv, .agg #[.int .i64 K, .int .i64 n]] W fun r w' => (∃ t, r = .returned (.bool t) ∧ T t) ∧ I2 w' := by
  have d11 : (K == 11) = false := beq_eq_false_iff_ne.2 (by omega)
  have d12 : (K == 12) = false := beq_eq_false_iff_ne.2 (by omega)
  have d13 : (K == 13) = false := beq_eq_false_iff_ne.2 (by omega)
  have d14 : (K == 14) = false := beq_eq_false_iff_ne.2 (by omega)
  have d15 : (K == 15) = false := beq_eq_false_iff_ne.2 (by omega)
  go_enter Try.func9, Try.ntmps9
  go_wp2_with fail
  refine (unhide HU _ (unhide HI)).mono ?_
  rintro _ w1 ⟨⟨t, rfl, hT⟩, hI⟩
  have HI := hide hI
  have HT := hide hT
  clear hI hT
  go_wp2_with fail
  go_ret
  exact ⟨⟨t, rfl, unhide HT⟩, unhide HI⟩
set_option maxHeartbeats 1000000 in
set_option maxRecDepth 100000 in
theorem read_lo {pv qv : Value} {I0 : World → Prop} {K n : Int} {W : World} (hn : K < 1) (HI : Hid (I0 (W.alloc (.cells #[.int .i64 K, .int .i64 n] 31)))) :
    Calls Try.prog 9 #[pv, qv, .agg #[.int .i64 K, .int .i64 n]] W fun r w' => r = .returned (.bool true) ∧ I0 w' := by
  have d11 : (K == 11) = false := beq_eq_false_iff_ne.2 (by omega)
  have d12 : (K == 12) = false := beq_eq_false_iff_ne.2 (by omega)
  have d13 : (K == 13) = false := beq_eq_false_iff_ne.2 (by omega)
  have d14 : (K == 14) = false := beq_eq_false_iff_ne.2 (by omega)
  have d15 : (K == 15) = false := beq_eq_false_iff_ne.2 (by omega)
  have g1 : ¬ 1 ≤ K := by omega
  go_enter Try.func9, Try.ntmps9
  go_wp2_with fail
  go_ret
  exact ⟨rfl, unhide HI⟩
set_option maxHeartbeats 1000000 in
set_option maxRecDepth 100000 in
theorem read_hi {pv qv : Value} {I0 : World → Prop} {K n : Int} {W : World} (hn : 15 < K) (HI : Hid (I0 (W.alloc (.cells #[.int .i64 K, .int .i64 n] 31)))) :
    Calls Try.prog 9 #[pv, qv, .agg #[.int .i64 K, .int .i64 n]] W fun r w' => r = .returned (.bool true) ∧ I0 w' := by
  have d11 : (K == 11) = false := beq_eq_false_iff_ne.2 (by omega)
  have d12 : (K == 12) = false := beq_eq_false_iff_ne.2 (by omega)
  have d13 : (K == 13) = false := beq_eq_false_iff_ne.2 (by omega)
  have d14 : (K == 14) = false := beq_eq_false_iff_ne.2 (by omega)
  have d15 : (K == 15) = false := beq_eq_false_iff_ne.2 (by omega)
  have g1 : 1 ≤ K := by omega
  have g2 : ¬ K ≤ 10 := by omega
  go_enter Try.func9, Try.ntmps9
  go_wp2_with fail
  go_ret
  exact ⟨rfl, unhide HI⟩
end Go.Proofs.Ytphgljhlamjmgaa
