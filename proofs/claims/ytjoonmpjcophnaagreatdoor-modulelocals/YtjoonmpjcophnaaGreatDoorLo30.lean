/- RfE. -/
import Derived.Test.YtjoonmpjcophnaaGreatDoorLo24
import Derived.Test.YtjoonmpjcophnaaGreatDoorLo25
import Derived.Test.YtjoonmpjcophnaaGreatDoorLo26
namespace Go.Proofs.YtjoonmpjcophnaaGreatDoor
open Go.RowKit

set_option maxHeartbeats 1000000 in
set_option maxRecDepth 100000 in
theorem rAmong1_ok {c : Nat} {a : Option Addr} {len cap k : Nat} {xs : List Int} {k1 : Nat} {e y z : Int} {l1 : Option Addr} {l2 l3 : Nat} {ys : List Int} {W : World}
    (HU : Hid (Calls Tryz.prog 22 #[.pointer (some ⟨c, 0, none⟩)] W fun r W' => r = .returned (.int .u8 y) ∧ Cs c a len cap xs k1 0 W' ∧ Fr [c] W W')) (hz : z ≠ 0)
    (hS : Sl W l1 l2 l3 ys) (hP : ∀ p, l1 = some p → 0 < l2 → p.block ≠ c) (h : Cs c a len cap xs k e W) :
    Calls Tryz.prog 73 #[.pointer (some ⟨c, 0, none⟩), .slice l1 l2 l3, .int .i64 z] W fun r W' => r = .returned (.int .u8 (pk (chE (inl ys y) 0 z) y 0)) ∧ Cs c a len cap xs (back (chE (inl ys y) 0 z) k1 k) (chE (inl ys y) 0 z) W' ∧ Fr [c] W W' := by
  have HKL := hide h.2.2.2.2.1
  have h1 := h.1.2.1
  have HS := hide hS
  have HP := hide hP
  have HZ := hide hz
  clear h hS hP hz
  go_enter Tryz.func73, Tryz.ntmps73
  go_wp2_with fail
  refine (unhide HU).mono ?_
  rintro _ w1 ⟨rfl, hC, hF⟩
  have HS := hide ((unhide HS).fr hF (fun p hp h0 => by simpa using unhide HP p hp h0))
  have H := hide hC
  have HF := hide hF
  clear hC hF h1
  have h2 := (unhide H).1.2.2.1
  have HL := hide (unhide HS).1
  have HE := hide (show ∀ j, j < l2 → ∃ b off, l1 = some ⟨b, off, none⟩ ∧ w1.cell? ⟨b, off + j, none⟩ = some (.int .u8 (ys.getD j 0)) from fun j hj => by
    rcases (unhide HS).2.2.2 with ⟨_, h2, _⟩ | ⟨b, off, h5, h6⟩
    · omega
    · exact ⟨b, off, h5, h6 j hj⟩)
  have hx3 := (unhide HS).2.1
  have hx2 := (unhide HS).2.2.1
  go_wp2_with fail
  go_loop [9] (fun v9 => ∃ i : Nat, i ≤ l2 ∧ v9 = .int .i64 (i : Int) ∧ inl (ys.take i) y = false) (fun v9 => l2 - (intOf v9).toNat)
  case atStart => exact ⟨0, by omega, rfl, rfl⟩
  case round =>
    obtain ⟨i, hi, rfl, hn⟩ := hrel
    by_cases hlt : i < l2
    · obtain ⟨b0, off, rfl, hc⟩ := unhide HE i hlt
      have hi' : (i : Int) < (l2 : Int) := by omega
      have HT := hide (inl_take ys y i (by rw [unhide HL]; exact hlt) hn)
      have HA := hide (inl_at ys i (by rw [unhide HL]; exact hlt))
      clear hn
      generalize ys.getD i 0 = v at *
      by_cases hy : v = y
      · subst hy
        go_wp2_with fail
        go_ret
        rw [unhide HA]
        exact ⟨rfl, unhide H, unhide HF⟩
      · have d : (v == y) = false := beq_eq_false_iff_ne.2 hy
        have hy2 : Hid ((y == v) = false) := hide (beq_eq_false_iff_ne.2 (Ne.symm hy))
        go_wp2_with fail
        exact ⟨⟨i + 1, by omega, by go_num, by rw [unhide HT, unhide hy2]⟩, by simp [intOf]; omega⟩
    · have hi' : ¬ (i : Int) < (l2 : Int) := by omega
      rw [List.take_of_length_le (by rw [unhide HL]; omega)] at hn
      have HN := hide hn
      clear hn
      go_wp2_with fail
      refine (rFail_any (unhide H)).mono ?_
      rintro _ w4 ⟨rfl, hC, hF⟩
      have HF := hide ((unhide HF).trans hF)
      have HK := hide (rBack_any (k0 := k) hC (unhide HKL))
      clear hC hF
      go_wp2_with fail
      refine (unhide HK).mono ?_
      rintro _ w5 ⟨rfl, hC, hF⟩
      have HF := hide ((unhide HF).trans hF)
      have H := hide hC
      clear hC hF
      go_wp2_with fail
      go_ret
      rw [unhide HN]
      exact ⟨by rw [show chE false 0 z = z from rfl, pk_e (unhide HZ)]; rfl, unhide H, unhide HF⟩
set_option maxHeartbeats 1000000 in
set_option maxRecDepth 100000 in
theorem rAmong1_no {c : Nat} {a : Option Addr} {len cap k : Nat} {xs : List Int} {k1 : Nat} {e y z e1 : Int} {l1 : Option Addr} {l2 l3 : Nat} {ys : List Int} {W : World}
    (HU : Hid (Calls Tryz.prog 22 #[.pointer (some ⟨c, 0, none⟩)] W fun r W' => r = .returned (.int .u8 y) ∧ Cs c a len cap xs k1 e1 W' ∧ Fr [c] W W')) (he : e1 ≠ 0)
    (hS : Sl W l1 l2 l3 ys) (hP : ∀ p, l1 = some p → 0 < l2 → p.block ≠ c) (h : Cs c a len cap xs k e W) :
    Calls Tryz.prog 73 #[.pointer (some ⟨c, 0, none⟩), .slice l1 l2 l3, .int .i64 z] W fun r W' => r = .returned (.int .u8 0) ∧ Cs c a len cap xs k e1 W' ∧ Fr [c] W W' := by
  have HKL := hide h.2.2.2.2.1
  have h1 := h.1.2.1
  have HS := hide hS
  have HP := hide hP
  have HZ := hide he
  have d0 : (e1 == 0) = false := beq_eq_false_iff_ne.2 he
  clear h hS hP he
  go_enter Tryz.func73, Tryz.ntmps73
  go_wp2_with fail
  refine (unhide HU).mono ?_
  rintro _ w1 ⟨rfl, hC, hF⟩
  have HS := hide ((unhide HS).fr hF (fun p hp h0 => by simpa using unhide HP p hp h0))
  have H := hide hC
  have HF := hide hF
  clear hC hF h1
  have h2 := (unhide H).1.2.2.1
  have HL := hide (unhide HS).1
  have HE := hide (show ∀ j, j < l2 → ∃ b off, l1 = some ⟨b, off, none⟩ ∧ w1.cell? ⟨b, off + j, none⟩ = some (.int .u8 (ys.getD j 0)) from fun j hj => by
    rcases (unhide HS).2.2.2 with ⟨_, h2, _⟩ | ⟨b, off, h5, h6⟩
    · omega
    · exact ⟨b, off, h5, h6 j hj⟩)
  have hx3 := (unhide HS).2.1
  have hx2 := (unhide HS).2.2.1
  go_wp2_with fail
  go_loop [9] (fun v9 => ∃ i : Nat, i ≤ l2 ∧ v9 = .int .i64 (i : Int)) (fun v9 => l2 - (intOf v9).toNat)
  case atStart => exact ⟨0, by omega, rfl⟩
  case round =>
    obtain ⟨i, hi, rfl⟩ := hrel
    by_cases hlt : i < l2
    · obtain ⟨b0, off, rfl, hc⟩ := unhide HE i hlt
      have hi' : (i : Int) < (l2 : Int) := by omega
      generalize ys.getD i 0 = v at *
      by_cases hy : v = y
      · subst hy
        go_wp2_with fail
        exact ⟨⟨i + 1, by omega, by go_num⟩, by simp [intOf]; omega⟩
      · have d : (v == y) = false := beq_eq_false_iff_ne.2 hy
        go_wp2_with fail
        exact ⟨⟨i + 1, by omega, by go_num⟩, by simp [intOf]; omega⟩
    · have hi' : ¬ (i : Int) < (l2 : Int) := by omega
      go_wp2_with fail
      refine (rFail_any (unhide H)).mono ?_
      rintro _ w4 ⟨rfl, hC, hF⟩
      rw [if_neg (unhide HZ)] at hC
      have HF := hide ((unhide HF).trans hF)
      have HK := hide (rBack_any (k0 := k) hC (unhide HKL))
      rw [back_e (unhide HZ)] at HK
      clear hC hF
      go_wp2_with fail
      refine (unhide HK).mono ?_
      rintro _ w5 ⟨rfl, hC, hF⟩
      have HF := hide ((unhide HF).trans hF)
      have H := hide hC
      clear hC hF
      go_wp2_with fail
      go_ret
      exact ⟨rfl, unhide H, unhide HF⟩
theorem rAmong_any {c : Nat} {a : Option Addr} {len cap k : Nat} {xs : List Int} {e z : Int} {l1 : Option Addr} {l2 l3 : Nat} {ys : List Int} {W : World} (h : Cs c a len cap xs k e W) (hz : z ≠ 0) (hS : Sl W l1 l2 l3 ys) (hP : ∀ p, l1 = some p → 0 < l2 → p.block ≠ c) :
    Calls Tryz.prog 73 #[.pointer (some ⟨c, 0, none⟩), .slice l1 l2 l3, .int .i64 z] W fun r W' => r = .returned (.int .u8 (lift (rOne ys z) 0 xs k e).1) ∧ Cs c a len cap xs (lift (rOne ys z) 0 xs k e).2.1 (lift (rOne ys z) 0 xs k e).2.2 W' ∧ Fr [c] W W' := by
  have HU := rByte_any h
  obtain ⟨⟨y, k1, e1⟩, hU⟩ : ∃ t, lift rB 0 xs k e = t := ⟨_, rfl⟩
  rw [hU] at HU
  have hL : lift (rOne ys z) 0 xs k e = (pk (chE (inl ys y) e1 z) y 0, back (chE (inl ys y) e1 z) k1 k, chE (inl ys y) e1 z) := by
    unfold rOne
    exact seq_tst (p := inl ys) (g := id) hU hz
  rw [hL]
  dsimp only at HU ⊢
  by_cases he : e1 = 0
  · subst he
    exact rAmong1_ok (hide HU) hz hS hP h
  · have hE : chE (inl ys y) e1 z = e1 := by
      cases inl ys y
      · exact if_neg he
      · rfl
    rw [hE, pk_e he, back_e he]
    exact rAmong1_no (hide HU) he hS hP h
theorem rOne_lit {c : Nat} {a : Option Addr} {len cap k : Nat} {xs : List Int} {e z : Int} {W : World} (ys : List Int) (n : Nat) (hn : ys.length = n) (hn2 : n ≤ 1000) (h : Cs c a len cap xs k e W) (hz : z ≠ 0) :
    Calls Tryz.prog 73 #[.pointer (some ⟨c, 0, none⟩), .slice (some ⟨W.heap.size, 0, none⟩) n n, .int .i64 z] (W.alloc (.cells (bys ys).toArray 5)) fun r W' => r = .returned (.int .u8 (lift (rOne ys z) 0 xs k e).1) ∧ Cs c a len cap xs (lift (rOne ys z) 0 xs k e).2.1 (lift (rOne ys z) 0 xs k e).2.2 W' ∧ Fr [c] W W' := by
  refine (rAmong_any (h.alloc _) hz (sl_lit W ys n hn hn2) (fun p hp _ => by injection hp with hp; subst hp; have := h.1.lt; show W.heap.size ≠ c; omega)).mono ?_
  rintro _ w ⟨rfl, hC, hF⟩
  exact ⟨rfl, hC, (Fr.of (below1 W _) [c]).trans hF⟩
set_option maxHeartbeats 1000000 in
set_option maxRecDepth 100000 in
theorem rValue_any {c : Nat} {a : Option Addr} {len cap k : Nat} {xs : List Int} {e : Int} {W : World} (h : Cs c a len cap xs k e W) :
    Calls Tryz.prog 44 #[.pointer (some ⟨c, 0, none⟩)] W fun r W' => r = .returned (.int .u8 (lift (rOne [127, 126, 125, 124] 106) 0 xs k e).1) ∧ Cs c a len cap xs (lift (rOne [127, 126, 125, 124] 106) 0 xs k e).2.1 (lift (rOne [127, 126, 125, 124] 106) 0 xs k e).2.2 W' ∧ Fr [c] W W' := by
  have HN : Hid (Calls Tryz.prog 73 #[.pointer (some ⟨c, 0, none⟩), .slice (some ⟨W.heap.size, 0, none⟩) 4 4, .int .i64 106] (W.alloc (.cells #[.int .u8 127, .int .u8 126, .int .u8 125, .int .u8 124] 5)) fun r W' => r = .returned (.int .u8 (lift (rOne [127, 126, 125, 124] 106) 0 xs k e).1) ∧ Cs c a len cap xs (lift (rOne [127, 126, 125, 124] 106) 0 xs k e).2.1 (lift (rOne [127, 126, 125, 124] 106) 0 xs k e).2.2 W' ∧ Fr [c] W W') := hide (rOne_lit [127, 126, 125, 124] 4 rfl (by omega) h (by decide))
  clear h
  generalize lift (rOne [127, 126, 125, 124] 106) 0 xs k e = L at *
  obtain ⟨y, k1, e1⟩ := L
  dsimp only at *
  go_enter Tryz.func44, Tryz.ntmps44
  go_wp2_with fail
  refine (unhide HN).mono ?_
  rintro _ w1 ⟨rfl, hC, hF⟩
  have HC := hide hC
  have HF := hide hF
  clear hC hF
  go_wp2_with fail
  go_ret
  exact ⟨rfl, unhide HC, unhide HF⟩
end Go.Proofs.YtjoonmpjcophnaaGreatDoor
