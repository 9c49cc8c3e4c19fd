/- Awake; the law ScanNone. -/
import Derived.Test.YtphgljhlamjmgaaLawD
namespace Go.Proofs.Ytphgljhlamjmgaa
open Go.RowKit

theorem aw_func : lift rFunc ([], []) [96, 1, 127, 0] 0 0 = (([127], []), 4, 0) := by rfl
theorem aw_limits : lift rLimits (0, 0, false) [1, 5, 7] 0 0 = ((5, 7, true), 3, 0) := by rfl
theorem byt_dec (l : List Int) (h : l.all (fun x => decide (0 ≤ x) && decide (x < 256)) = true) : Byt l := by
  intro x hx
  have := List.all_eq_true.1 h x hx
  simpa using this
set_option maxHeartbeats 1000000 in
set_option maxRecDepth 100000 in
theorem awake_any : Ct 7 #[] (.bool true) := by
  refine hide fun W => ?_
  have HN1 := hide (new_any (sl_lit W [96, 1, 127, 0] 4 rfl (by omega)) (by omega) (byt_dec _ rfl))
  have HL := hide aw_limits
  have HA := hide aw_func
  go_enter Try.func7, Try.ntmps7
  go_wp2_with fail
  refine (unhide HN1).mono ?_
  rintro _ w1 ⟨c, y1, y3, rfl, hC, hc, hF⟩
  have HG := hide (func_any hC)
  rw [unhide HA] at HG
  have hz : W.heap.size + 1 ≤ w1.heap.size := by have := hF.size; simpa using this
  have HF := hide ((Fr.of (below1 W (.cells (bys [96, 1, 127, 0]).toArray 5)) []).trans hF)
  have hc' : W.heap.size ≤ c := by simp at hc; omega
  dsimp only at HG
  clear hC hF hc HN1
  go_wp2_with fail
  refine (unhide HG).mono ?_
  rintro _ w2 ⟨x1, x2, x3, u1, u2, u3, rfl, hN1, hN2, -, hF⟩
  have HF := hide ((unhide HF).thenL (l := []) hF (by simp; omega))
  have hz2 := Nat.le_trans hz hF.size
  obtain rfl : 1 = x2 := hN1.1.1
  have HP := hide (hN1.1.lt)
  obtain rfl : 0 = u2 := hN2.1.1
  have HX := hide (hN1.bel (below1 w2 (.cells #[.slice x1 1 x3, .slice u1 0 u3] 48)))
  have HQ : Hid (At2 w2.heap.size (.slice x1 1 x3) (.slice u1 0 u3) (w2.alloc (.cells #[.slice x1 1 x3, .slice u1 0 u3] 48))) := hide (by unfold At2; simp [go_sem])
  have HF := hide ((unhide HF).alloc (.cells #[.slice x1 1 x3, .slice u1 0 u3] 48))
  have HN3 := hide (new_any (sl_lit (w2.alloc (.cells #[.slice x1 1 x3, .slice u1 0 u3] 48)) [1, 5, 7] 3 rfl (by omega)) (by omega) (byt_dec _ rfl))
  rw [show (w2.alloc (.cells #[.slice x1 1 x3, .slice u1 0 u3] 48)).heap.size = w2.heap.size + 1 by simp] at HN3
  clear hF hN1 hN2 HG
  go_wp2_with fail
  refine (unhide HN3).mono ?_
  rintro _ w3 ⟨d, z1, z3, rfl, hC, hd, hF⟩
  have hF := (Fr.of (below1 (w2.alloc (.cells #[.slice x1 1 x3, .slice u1 0 u3] 48)) (.cells (bys [1, 5, 7]).toArray 5)) []).trans hF
  have hd' : w2.heap.size + 2 ≤ d := by simp at hd; omega
  have HG := hide (limits_any hC)
  rw [unhide HL] at HG
  have hz3 := hF.size
  have HX := hide ((unhide HX).fr hF (by simp))
  have HQ := hide ((unhide HQ).fr hF (by simp))
  have HF := hide ((unhide HF).trans hF)
  simp at hz3
  clear hF hC hd HN3
  unfold lmV at HG
  dsimp only at HG
  go_wp2_with fail
  refine (unhide HG).mono ?_
  rintro _ w4 ⟨rfl, -, hF⟩
  have hX := ((unhide HX).1.fr hF (fun p hp h0 => by have := unhide HP p hp h0; simp; omega))
  have HQ := hide ((unhide HQ).fr hF (by simp; omega))
  have HZ := hide ((unhide HF).thenL (l := []) hF (by simp; omega))
  obtain ⟨g0, g1⟩ := unhide HQ
  obtain ⟨b, off, rfl, hy⟩ : ∃ b off, x1 = some ⟨b, off, none⟩ ∧ w4.cell? ⟨b, off, none⟩ = some (.int .u8 127) := by
    rcases hX.2.2.2 with ⟨_, h2, _⟩ | ⟨b, off, h5, h6⟩
    · omega
    · exact ⟨b, off, h5, by have := h6 0 (by omega); simpa using this⟩
  have hx3 := hX.2.1
  clear hF hX HG
  go_wp2_with fail
  go_ret
  exact ⟨rfl, (unhide HZ).nil⟩
theorem cs_bare (w : World) (e : Int) (t : TypeId) : Cs w.heap.size none 0 0 [] 0 e (w.alloc (.cells #[.slice none 0 0, .int .i64 0, .int .i64 e] t)) := by
  refine ⟨⟨by simp [go_sem], by simp [go_sem], by simp [go_sem], fun o ho => ?_⟩, (nw_nil 0 _).1, by simp, fun x hx => by simp at hx, Nat.le_refl _, by omega⟩
  exact ((room_cells (cs := [.slice none 0 0, .int .i64 0, .int .i64 e]) (t := t) w 3 (by simp)) o ho).2
set_option maxHeartbeats 1000000 in
set_option maxRecDepth 100000 in
theorem none_any (K n : Int) (W : World) : Calls Try.prog 4 #[.agg #[.int .i64 K, .int .i64 n]] W fun r W' => r = .returned (.bool true) ∧ Below W.heap.size W W' := by
  have HA := awake_any
  have HO : Hid (At2 W.heap.size (.int .i64 K) (.int .i64 n) (W.alloc (.cells #[.int .i64 K, .int .i64 n] 31))) := hide (by unfold At2; simp [go_sem])
  have HF := hide ((Fr.refl [] W).alloc (.cells #[.int .i64 K, .int .i64 n] 31))
  go_enter Try.func4, Try.ntmps4
  go_wp2_with fail
  refine (unhide HA _).mono ?_
  rintro _ w1 ⟨rfl, hb⟩
  have HO := hide ((unhide HO).fr (Fr.of hb []) (by simp))
  have HF := hide ((unhide HF).bel hb)
  clear hb
  go_wp2_with fail
  refine Fail_nil.mono ?_
  rintro _ w2 ⟨rfl, hF⟩
  have HO := hide ((unhide HO).fr hF (by simp))
  have HF := hide ((unhide HF).trans hF)
  have ho : W.heap.size < w2.heap.size := World.block_lt_of_cell? w2 _ (unhide HO).1
  have HC := hide (cs_bare w2 1 29)
  have HO := hide ((unhide HO).fr (Fr.of (below1 w2 (.cells #[.slice none 0 0, .int .i64 0, .int .i64 1] 29)) []) (by simp))
  have HF := hide ((unhide HF).alloc (.cells #[.slice none 0 0, .int .i64 0, .int .i64 1] 29))
  obtain ⟨o1, o2⟩ := unhide HO
  have HN := hide (read_nil (K := K) (n := n) (by decide) (unhide HC))
  clear hF
  go_wp2_with fail
  refine (unhide HN).mono ?_
  rintro _ w3 ⟨rfl, hC, hF⟩
  have HO := hide ((unhide HO).fr hF (by simp; omega))
  have HF := hide ((unhide HF).thenL (l := []) hF (by simp; omega))
  have hz3 := hF.size
  simp at hz3
  clear hC hF o1 o2
  go_wp2_with fail
  refine at_nil.mono ?_
  rintro _ w4 ⟨rfl, rfl⟩
  go_wp2_with fail
  refine left2_nil.mono ?_
  rintro _ w5 ⟨rfl, rfl⟩
  go_wp2_with fail
  refine err_nil.mono ?_
  rintro _ w6 ⟨rfl, rfl⟩
  have HC := hide (cs_bare w6 0 43)
  have HR := hide (cs_bare (w6.alloc (.cells #[.slice none 0 0, .int .i64 0, .int .i64 0] 43)) 0 29)
  have HC := hide ((unhide HC).alloc (.cells #[.slice none 0 0, .int .i64 0, .int .i64 0] 29))
  rw [show (w6.alloc (.cells #[.slice none 0 0, .int .i64 0, .int .i64 0] 43)).heap.size = w6.heap.size + 1 by simp] at HR
  have HT := hide (show Tw w6.heap.size none 0 0 [] 0 0 (w6.heap.size + 1) none 0 0 [] 0 0 ((w6.alloc (.cells #[.slice none 0 0, .int .i64 0, .int .i64 0] 43)).alloc (.cells #[.slice none 0 0, .int .i64 0, .int .i64 0] 29)) from ⟨unhide HC, unhide HR, by omega, by simp, by simp⟩)
  have HO := hide ((unhide HO).fr (Fr.of (below2 w6 (.cells #[.slice none 0 0, .int .i64 0, .int .i64 0] 43) (.cells #[.slice none 0 0, .int .i64 0, .int .i64 0] 29)) []) (by simp))
  have HF := hide (((unhide HF).alloc (.cells #[.slice none 0 0, .int .i64 0, .int .i64 0] 43)).alloc (.cells #[.slice none 0 0, .int .i64 0, .int .i64 0] 29))
  have HN := hide (read_any (K := K) (n := n) (unhide HT))
  have HS := hide (stp_15 (K := K) (n := n) (xs := []) (k := 0) (e := 0) (Nat.le_refl _))
  obtain ⟨o1, o2⟩ := unhide HO
  generalize stp K n [] 0 0 = T at *
  obtain ⟨k1, e1⟩ := T
  obtain rfl : k1 = 0 := Nat.le_zero.1 (unhide HS)
  dsimp only at HN
  go_wp2_with fail
  refine (unhide HN).mono ?_
  rintro _ w7 ⟨⟨t, rfl, ht⟩, hT, hF⟩
  obtain rfl : t = true := ht (by simp)
  have HF := hide ((unhide HF).thenL (l := []) hF (by simp; omega))
  have HQ := hide (at_any hT.1)
  clear hF hT o1 o2 ht
  go_wp2_with fail
  refine (unhide HQ).mono ?_
  rintro _ w8 ⟨rfl, rfl⟩
  go_wp2_with fail
  go_ret
  exact ⟨rfl, (unhide HF).nil⟩
end Go.Proofs.Ytphgljhlamjmgaa
