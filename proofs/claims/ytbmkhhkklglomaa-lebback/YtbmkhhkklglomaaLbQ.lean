/- The walks of PutUint, PutSint. -/
import Derived.Test.YtbmkhhkklglomaaLbO
import Derived.Test.YtbmkhhkklglomaaLbP
namespace Go.Proofs.Ytbmkhhkklglomaa
open Go.RowKit

/-- What puts a number's bytes. -/
def Puts (f : Nat) (z : Int) (xs : List Int) : Prop := Hid (∀ W, Calls Try.prog f #[.int .u64 z] W fun r W' => ∃ v, r = .returned v ∧ Ow W' W.heap.size v xs ∧ Below W.heap.size W W')
theorem len_app {A : Type} {l xs ys : List A} {k : Nat} (h : l.length ≤ k) (e : l = xs ++ ys) : xs.length ≤ k := by rw [e, List.length_append] at h; omega
theorem form_one {w : World} {B : Nat} {v : Value} {xs : List Int} (h : Ow w B v xs) (hn : xs ≠ []) : ∃ g cap, v = .slice (some ⟨g, 0, none⟩) xs.length cap := by
  obtain ⟨g, cap, h, _⟩ := h.form hn
  exact ⟨g, cap, h⟩
set_option maxHeartbeats 1000000 in
set_option maxRecDepth 100000 in
theorem putUint_any (n : Nat) (hn : n < 18446744073709551616) : Puts 12 (n : Int) (putU n) := by
  have H10 := hide (putU_len 9 n (Nat.lt_of_lt_of_le hn (by decide)))
  refine hide (fun W => ?_)
  go_enter Try.func12, Try.ntmps12
  go_wp2_with fail
  go_loopw [0, 3] (fun v0 v3 wr => ∃ (m : Nat) (xs : List Int), m ≤ n ∧ v0 = .int .u64 (m : Int) ∧ Ow wr W.heap.size v3 xs ∧ putU n = xs ++ putU m ∧ Below W.heap.size W wr) (fun v0 _ _ => (intOf v0).toNat)
  case atStart => exact ⟨n, [], Nat.le_refl _, rfl, ow_nil _ _, rfl, Below.refl _ _⟩
  case round =>
    obtain ⟨m, xs, hm, rfl, hO, hE, hB⟩ := hrel
    have HO := hide hO; have HB := hide hB; have HE := hide hE
    have hx := len_app (unhide H10) hE
    have HL1 := hide (show xs.length + 1 ≤ maxLen by unfold maxLen; omega)
    have HL2 := hide (show (xs.length + 1) * 1 ≤ 140737488355328 by omega)
    have HL3 := hide (show W.heap.size ≤ wr.heap.size from hB.size)
    clear hO hB hE hx
    by_cases hc : m < 128
    · go_wp2_with (at_builtin; refine wpList_append_own _ rfl _ _ 22 rfl (W.heap.size) 5 _ (.int .u8 0) 1 1 Try.underlying22 iU8 rfl rfl rfl rfl (by decide) _ _ _ rfl (World.ownsRow.alloc (unhide HO) _) ⟨wr.heap.size, 0, none⟩ 1 1 [.int .u8 (m : Int)] rfl rfl (cell_one_new _ _ _) (bys_cell [_]) (unhide HL1) (unhide HL2) (base_le (unhide HL3) _) ?_; intro v' wz hown' hgr _)
      have hr := app_one (unhide HO) (unhide HB) (unhide HL3) hown' hgr rfl
      rw [← putU_last hc, ← unhide HE] at hr
      obtain ⟨g, cap, rfl⟩ := form_one hr.1 (putU_ne n)
      exact bodyPost_ret (v := .slice (some ⟨g, 0, none⟩) (putU n).length cap) (by simp [results, Try.results12, go_sem]) rfl ⟨_, rfl, hr.1, hr.2⟩
    · go_wp2_with (at_builtin; refine wpList_append_own _ rfl _ _ 22 rfl (W.heap.size) 5 _ (.int .u8 0) 1 1 Try.underlying22 iU8 rfl rfl rfl rfl (by decide) _ _ _ rfl (World.ownsRow.alloc (unhide HO) _) ⟨wr.heap.size, 0, none⟩ 1 1 [.int .u8 (bits .or .u8 ((m : Int) % 256) 128)] rfl rfl (cell_one_new _ _ _) (bys_cell [_]) (unhide HL1) (unhide HL2) (base_le (unhide HL3) _) ?_; intro v' wz hown' hgr _)
      have hr := app_one (unhide HO) (unhide HB) (unhide HL3) hown' hgr (or_128 m)
      refine ⟨⟨m / 128, _, by omega, by go_num, hr.1, by rw [unhide HE, putU_more hc, List.append_assoc]; rfl, hr.2⟩, by simp [intOf]; omega⟩
theorem s_range {s : Int} (h1 : -9223372036854775808 ≤ s) (h2 : s < 9223372036854775808) : IntKind.i64.wrap (s % 18446744073709551616) = s := by
  simp only [IntKind.wrap, IntKind.bits, IntKind.signed]
  simp
  omega
theorem or_128s (s : Int) : bits .or .u8 (IntKind.u8.wrap s) 128 = 128 + s % 128 := by
  obtain ⟨n, hn⟩ := Int.eq_ofNat_of_zero_le (Int.emod_nonneg s (show (256 : Int) ≠ 0 by omega))
  have e : IntKind.u8.wrap s = (n : Int) % 256 := by
    simp only [IntKind.wrap, IntKind.bits, IntKind.signed]
    simp
    omega
  rw [e, or_128]
  omega
theorem andNot_128s (s : Int) : bits .andNot .u8 (IntKind.u8.wrap s) 128 = s % 128 := by
  obtain ⟨n, hn⟩ := Int.eq_ofNat_of_zero_le (Int.emod_nonneg s (show (256 : Int) ≠ 0 by omega))
  have e : IntKind.u8.wrap s = (n : Int) % 256 := by
    simp only [IntKind.wrap, IntKind.bits, IntKind.signed]
    simp
    omega
  rw [e, andNot_128]
  omega
set_option maxHeartbeats 1000000 in
set_option maxRecDepth 100000 in
theorem putSint_any (s : Int) (h1 : -9223372036854775808 ≤ s) (h2 : s < 9223372036854775808) : Puts 14 (s % 18446744073709551616) (putS s) := by
  have H10 := hide (putS_len 9 s (by omega) (by omega))
  have hw := s_range h1 h2
  have z0 := Int.emod_nonneg s (show (18446744073709551616 : Int) ≠ 0 by omega)
  have z1 := Int.emod_lt_of_pos s (show (0 : Int) < 18446744073709551616 by omega)
  refine hide (fun W => ?_)
  generalize s % 18446744073709551616 = z at *
  go_enter Try.func14, Try.ntmps14
  go_wp2_with fail
  clear hw
  go_loopw [3, 4] (fun v3 v4 wr => ∃ (m : Int) (xs : List Int), -9223372036854775808 ≤ m ∧ m < 9223372036854775808 ∧ v4 = .int .i64 m ∧ Ow wr W.heap.size v3 xs ∧ putS s = xs ++ putS m ∧ Below W.heap.size W wr) (fun _ v4 _ => (intOf v4).natAbs)
  case atStart => exact ⟨s, [], h1, h2, rfl, ow_nil _ _, rfl, Below.refl _ _⟩
  case round =>
    obtain ⟨m, xs, hm1, hm2, rfl, hO, hE, hB⟩ := hrel
    have HO := hide hO; have HB := hide hB; have HE := hide hE
    have hx := len_app (unhide H10) hE
    have HL1 := hide (show xs.length + 1 ≤ maxLen by unfold maxLen; omega)
    have HL2 := hide (show (xs.length + 1) * 1 ≤ 140737488355328 by omega)
    have HL3 := hide (show W.heap.size ≤ wr.heap.size from hB.size)
    clear hO hB hE hx
    by_cases hA : m < -64
    · go_wp2_with (at_builtin; refine wpList_append_own _ rfl _ _ 22 rfl (W.heap.size) 5 _ (.int .u8 0) 1 1 Try.underlying22 iU8 rfl rfl rfl rfl (by decide) _ _ _ rfl (World.ownsRow.alloc (unhide HO) _) ⟨wr.heap.size, 0, none⟩ 1 1 [.int .u8 (bits .or .u8 (IntKind.u8.wrap m) 128)] rfl rfl (cell_one_new _ _ _) (bys_cell [_]) (unhide HL1) (unhide HL2) (base_le (unhide HL3) _) ?_; intro v' wz hown' hgr _)
      have hr := app_one (unhide HO) (unhide HB) (unhide HL3) hown' hgr (or_128s m)
      refine ⟨⟨m / 128, _, by omega, by omega, by go_num, hr.1, by rw [unhide HE, putS_more (by omega), List.append_assoc]; rfl, hr.2⟩, by simp [intOf]; omega⟩
    · by_cases hC : 64 ≤ m
      · go_wp2_with (at_builtin; refine wpList_append_own _ rfl _ _ 22 rfl (W.heap.size) 5 _ (.int .u8 0) 1 1 Try.underlying22 iU8 rfl rfl rfl rfl (by decide) _ _ _ rfl (World.ownsRow.alloc (unhide HO) _) ⟨wr.heap.size, 0, none⟩ 1 1 [.int .u8 (bits .or .u8 (IntKind.u8.wrap m) 128)] rfl rfl (cell_one_new _ _ _) (bys_cell [_]) (unhide HL1) (unhide HL2) (base_le (unhide HL3) _) ?_; intro v' wz hown' hgr _)
        have hr := app_one (unhide HO) (unhide HB) (unhide HL3) hown' hgr (or_128s m)
        refine ⟨⟨m / 128, _, by omega, by omega, by go_num, hr.1, by rw [unhide HE, putS_more (by omega), List.append_assoc]; rfl, hr.2⟩, by simp [intOf]; omega⟩
      · go_wp2_with (at_builtin; refine wpList_append_own _ rfl _ _ 22 rfl (W.heap.size) 5 _ (.int .u8 0) 1 1 Try.underlying22 iU8 rfl rfl rfl rfl (by decide) _ _ _ rfl (World.ownsRow.alloc (unhide HO) _) ⟨wr.heap.size, 0, none⟩ 1 1 [.int .u8 (bits .andNot .u8 (IntKind.u8.wrap m) 128)] rfl rfl (cell_one_new _ _ _) (bys_cell [_]) (unhide HL1) (unhide HL2) (base_le (unhide HL3) _) ?_; intro v' wz hown' hgr _)
        have hr := app_one (unhide HO) (unhide HB) (unhide HL3) hown' hgr (andNot_128s m)
        rw [← putS_last (by omega), ← unhide HE] at hr
        obtain ⟨g, cap, rfl⟩ := form_one hr.1 (putS_ne s)
        exact bodyPost_ret (v := .slice (some ⟨g, 0, none⟩) (putS s).length cap) (by simp [results, Try.results14, go_sem]) rfl ⟨_, rfl, hr.1, hr.2⟩
end Go.Proofs.Ytbmkhhkklglomaa
