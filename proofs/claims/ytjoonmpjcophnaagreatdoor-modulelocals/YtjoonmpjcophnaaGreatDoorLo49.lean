/- PfC. -/
import Derived.Test.YtjoonmpjcophnaaGreatDoorLo48
namespace Go.Proofs.YtjoonmpjcophnaaGreatDoor
open Go.RowKit

theorem cs_rd20 {w : World} {a : Option Addr} {len cap : Nat} {xs : List Int} (h : Sl w a len cap xs) (hy : Byt xs) (hl : len ≤ 7000) (t : TypeId) : Cs w.heap.size a len cap xs 0 0 (w.alloc (.cells #[.slice a len cap, .int .i64 0, .int .i64 0] t)) := by
  refine ⟨⟨by simp [go_sem], by simp [go_sem], by simp [go_sem], fun o ho => ?_⟩, h.below (below1 _ _), fun p hp h0 => ?_, hy, Nat.zero_le _, hl⟩
  · exact ((room_cells (cs := [.slice a len cap, .int .i64 0, .int .i64 0]) (t := t) w 3 (by simp)) o ho).2
  · have := h.lt p hp h0
    omega
theorem slc_nil0 (w : World) (P : Nat → Prop) : Slc w P 0 (bys []) (.slice none 0 0) := ⟨none, 0, rfl, Nat.le_refl _, by simp [bys], .inl ⟨rfl, fun _ => rfl⟩⟩
section
variable {a : Option Addr} {len cap : Nat} {xs : List Int} {W : World}
set_option maxHeartbeats 4000000 in
set_option maxRecDepth 100000 in
theorem locals_long (hm : Mk W) (h : 1000 < len) : Calls Tryz.prog 4 #[.slice a len cap] W fun r W' => r = .returned (.bool true) ∧ Fr [] W W' := by
  have HX := hide (awake20 hm hm.four)
  clear hm
  go_enter Tryz.func4, Tryz.ntmps4
  go_wp2_with fail
  refine (unhide HX).mono ?_
  rintro _ w1 ⟨rfl, -, hF⟩
  have HF := hide hF
  clear hF HX
  have h' : (1000 : Int) < len := by omega
  go_wp2_with fail
  go_ret
  exact ⟨rfl, unhide HF⟩
set_option maxHeartbeats 16000000 in
set_option maxRecDepth 100000 in
theorem locals_short (hm : Mk W) (hS : Sl W a len cap xs) (hy : Byt xs) (hl : len ≤ 1000) : Calls Tryz.prog 4 #[.slice a len cap] W fun r W' => r = .returned (.bool true) ∧ Fr [] W W' := by
  have HX := hide (awake20 hm hm.four)
  have HS := hide hS
  have HY := hide hy
  have h4 := hm.four
  have h1' : ¬ (1000 : Int) < len := by omega
  clear hm hS hy
  go_enter Tryz.func4, Tryz.ntmps4
  go_wp2_with fail
  refine (unhide HX).mono ?_
  rintro _ w1 ⟨rfl, hM, hF⟩
  have HF := hide hF
  have HS := hide ((unhide HS).fr hF (by simp))
  have HM := hide hM
  clear hM hF HX
  go_wp2_with fail
  refine (new_any (unhide HS) (by omega) (unhide HY)).mono ?_
  rintro _ w2 ⟨c, y1, y3, rfl, hC, hc, hF⟩
  have HX0 := (unhide HS).lt
  have HS := hide ((unhide HS).fr hF (by simp))
  have HM := hide ((unhide HM).fr hF (by simp))
  have hz1 := (unhide HF).size
  have hzs := hF.size
  have HC := hide (hC.alloc (.cells #[.slice a len cap, .int .i64 0, .int .i64 0] 57))
  have HR := hide (cs_rd20 (unhide HS) (unhide HY) (show len ≤ 7000 by omega) 57)
  have HM := hide ((unhide HM).below (below1 w2 (.cells #[.slice a len cap, .int .i64 0, .int .i64 0] 57)))
  have HT : Hid (c < w2.heap.size ∧ (∀ p, a = some p → 0 < len → p.block ≠ c) ∧ (∀ p, y1 = some p → 0 < len → p.block < w2.heap.size)) := hide ⟨hC.1.lt, fun p hp h0 => by have := HX0 p hp h0; omega, hC.2.1.lt⟩
  have HF := hide (((unhide HF).trans hF).alloc (.cells #[.slice a len cap, .int .i64 0, .int .i64 0] 57))
  have hsz : (w2.alloc (.cells #[.slice a len cap, .int .i64 0, .int .i64 0] 57)).heap.size = w2.heap.size + 1 := by simp
  clear hC hF HX0 HS
  go_wp2_with fail
  generalize w2.alloc (.cells #[.slice a len cap, .int .i64 0, .int .i64 0] 57) = w3 at *
  refine (plocals_more (unhide HC) (unhide HM) (by omega)).mono ?_
  rintro _ w4 ⟨L1, p, s, k1, e1, rfl, hD1, hV1, hC, hM, hF⟩
  have HD1 := hide hD1
  have HV1 := hide hV1
  have HC := hide hC
  have HR := hide ((unhide HR).fr hF (by simp; have := (unhide HT).1; omega) (fun p hp h0 => by simp; exact (unhide HT).2.1 p hp h0))
  have HF := hide ((unhide HF).thenL (l := []) hF (by simp; omega))
  have hz4 := hF.size
  clear hD1 hV1 hC hM hF HM
  go_wp2_with fail
  refine (rlocals_more (unhide HR)).mono ?_
  rintro _ w5 ⟨L2, p2, s2, k2, e2, rfl, hD2, hV2, hR, hF⟩
  obtain ⟨rfl, rfl, hv⟩ := (unhide HD1).det hD2
  have HC := hide ((unhide HC).fr hF (by simp; have := (unhide HT).1; omega) (fun p hp h0 => by simp; have := (unhide HT).2.2 p hp h0; omega))
  obtain ⟨sa, hE⟩ : ∃ sa, ∀ n, (convert 22 9 (.slice p L1.length s)).run Tryz.prog (w5.drewN n) = .ok (.string sa) (w5.drewN n) ∧ (convert 22 9 (.slice p2 L2.length s2)).run Tryz.prog (w5.drewN n) = .ok (.string sa) (w5.drewN n) := by
    by_cases h0 : e1 = 0
    · obtain rfl := hv h0
      refine ⟨strOfNums L1, fun n => ⟨conv_slc ((((unhide HV1).1 h0).fr hF (by simp; omega)).fr ((Fr.refl [] w5).drewN n) (by simp)), conv_slc ((hV2.1 h0).fr ((Fr.refl [] w5).drewN n) (by simp))⟩⟩
    · obtain ⟨rfl, rfl, rfl⟩ := (unhide HV1).2 h0
      obtain ⟨rfl, rfl, rfl⟩ := hV2.2 h0
      exact ⟨strOfNums [], fun n => ⟨conv_slc (P := fun _ => True) (slc_nil0 _ _), conv_slc (P := fun _ => True) (slc_nil0 _ _)⟩⟩
  have HF := hide ((unhide HF).thenL (l := []) hF (by simp; omega))
  have HB := hide (show (fun w' : World => w'.cell? ⟨w2.heap.size, 1, none⟩ = some (.int .i64 (k1 : Int)) ∧ w'.cell? ⟨w2.heap.size, 2, none⟩ = some (.int .i64 e1) ∧ (convert 22 9 (.slice p L1.length s)).run Tryz.prog w' = .ok (.string sa) w' ∧ (convert 22 9 (.slice p2 L2.length s2)).run Tryz.prog w' = .ok (.string sa) w') w5.drew from ⟨hR.1.2.1, hR.1.2.2.1, (hE 1).1, (hE 1).2⟩)
  have HC := hide (unhide HC).drew
  have HF := hide (unhide HF).drew
  clear hD2 hV2 hR hF hv HD1 HV1 HR hE
  go_wp2_with fail
  refine wp_region_held_drew (S := (fun w' : World => w'.cell? ⟨w2.heap.size, 1, none⟩ = some (.int .i64 (k1 : Int)) ∧ w'.cell? ⟨w2.heap.size, 2, none⟩ = some (.int .i64 e1) ∧ (convert 22 9 (.slice p L1.length s)).run Tryz.prog w' = .ok (.string sa) w' ∧ (convert 22 9 (.slice p2 L2.length s2)).run Tryz.prog w' = .ok (.string sa) w')) (by kernel_rfl) ?_ (fun hHeld => ?_)
  · (try dsimp only)
    exact unhide HB
  generalize w5.drew = w5 at *
  refine lst0 24 (by kernel_rfl) ?_
  refine tkA 0 21 1 ?_
  refine tkA 1 22 3 ?_
  refine tkA 2 23 7 ?_
  refine tkA 3 24 15 ?_
  refine tkA 4 25 31 ?_
  refine tkA 5 26 63 ?_
  refine tkA 6 27 127 ?_
  refine tkA 8 29 383 ?_
  refine tkA 9 30 895 ?_
  refine tkA 10 31 1919 ?_
  refine tkA 11 32 3967 ?_
  refine rdA 7 4095 (fun Kk hKk => ?_)
  go_simp
  refine (err_any (unhide HC)).mono ?_
  rintro _ w8 ⟨rfl, hww⟩
  obtain rfl : w5 = w8 := hww.symm
  clear hww
  (try go_wp2_with fail)
  refine hKk.out _ _ ?_ (fun hHeld => ?_)
  · (try dsimp only)
    exact unhide HB
  clear hKk Kk
  (try simp only [List.setIfInBounds_toArray, List.set_cons_zero, List.set_cons_succ])
  refine tkA 12 33 8191 ?_
  refine tkA 13 34 16383 ?_
  refine tkA 14 35 32767 ?_
  refine tkA 15 36 65535 ?_
  refine tkA 17 38 196607 ?_
  refine tkA 18 39 458751 ?_
  refine tkA 19 40 983039 ?_
  refine tkA 20 41 2031615 ?_
  refine rdA 16 2097151 (fun Kk hKk => ?_)
  go_simp
  refine (at_any (unhide HC)).mono ?_
  rintro _ w9 ⟨rfl, hww⟩
  obtain rfl : w5 = w9 := hww.symm
  clear hww
  (try go_wp2_with fail)
  refine hKk.out _ _ ?_ (fun hHeld => ?_)
  · (try dsimp only)
    exact unhide HB
  clear hKk Kk
  (try simp only [List.setIfInBounds_toArray, List.set_cons_zero, List.set_cons_succ])
  refine tkA 21 42 4194303 ?_
  refine tkA 22 43 8388607 ?_
  refine tkA 23 2 16777215 ?_
  refine wpAnyH_done (by kernel_rfl) ?_ _
  go_wp2_with fail
  go_ret
  exact ⟨rfl, unhide HF⟩
theorem moduleLocals_any (W : World) (hm : Mk W) (hS : len ≤ 140737488355328 → Sl W a len cap xs) (hy : Byt xs) : Calls Tryz.prog 4 #[.slice a len cap] W fun r W' => r = .returned (.bool true) ∧ Below W.heap.size W W' := by
  by_cases h1 : 1000 < len
  · exact (locals_long hm h1).mono fun _ _ h => ⟨h.1, h.2.nil⟩
  exact (locals_short hm (hS (by omega)) hy (by omega)).mono fun _ _ h => ⟨h.1, h.2.nil⟩
end
end Go.Proofs.YtjoonmpjcophnaaGreatDoor
