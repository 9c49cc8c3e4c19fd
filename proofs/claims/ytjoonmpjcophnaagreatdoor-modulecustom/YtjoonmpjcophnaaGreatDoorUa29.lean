/- ScJ. -/
import Derived.Test.YtjoonmpjcophnaaGreatDoorUa27
namespace Go.Proofs.YtjoonmpjcophnaaGreatDoor
open Go.RowKit

theorem inl_take (ys : List Int) (b : Int) (i : Nat) (hi : i < ys.length) (h : inl (ys.take i) b = false) : inl (ys.take (i + 1)) b = (b == ys.getD i 0) := by
  unfold inl at *
  rw [take_more ys i hi, List.contains_append, h, Bool.false_or]
  show (b == ys.getD i 0 || false) = _
  rw [Bool.or_false]
theorem inl_at (ys : List Int) (i : Nat) (hi : i < ys.length) : inl ys (ys.getD i 0) = true := by
  unfold inl
  rw [List.getD_eq_getElem?_getD, List.getElem?_eq_getElem hi, List.contains_iff_mem]
  exact List.getElem_mem _
/-- Found just if it is one. -/
def Fnd (i : Int) (t : Bool) : Prop := decide (0 ≤ i) = t
set_option maxHeartbeats 1000000 in
set_option maxRecDepth 100000 in
theorem index_any {x1 : Option Addr} {x2 x3 : Nat} {ys : List Int} {b : Int} {W : World} (h : Sl W x1 x2 x3 ys) :
    Calls Tryz.prog 131 #[.slice x1 x2 x3, .int .u8 b] W fun r W' => (∃ i : Int, r = .returned (.int .i64 i) ∧ Fnd i (inl ys b)) ∧ W' = W := by
  have HL := hide h.1
  have HE := hide (show ∀ j, j < x2 → ∃ b off, x1 = some ⟨b, off, none⟩ ∧ W.cell? ⟨b, off + j, none⟩ = some (.int .u8 (ys.getD j 0)) from fun j hj => by
    rcases h.2.2.2 with ⟨_, h2, _⟩ | ⟨b, off, h5, h6⟩
    · omega
    · exact ⟨b, off, h5, h6 j hj⟩)
  have hx3 := h.2.1
  have hx2 := h.2.2.1
  clear h
  go_enter Tryz.func131, Tryz.ntmps131
  go_wp2_with fail
  go_loop [8] (fun v8 => ∃ i : Nat, i ≤ x2 ∧ v8 = .int .i64 (i : Int) ∧ inl (ys.take i) b = false) (fun v8 => x2 - (intOf v8).toNat)
  case atStart => exact ⟨0, by omega, rfl, rfl⟩
  case round =>
    obtain ⟨i, hi, rfl, hn⟩ := hrel
    by_cases hlt : i < x2
    · obtain ⟨b0, off, rfl, hc⟩ := unhide HE i hlt
      have hi' : (i : Int) < (x2 : Int) := by omega
      have HS := hide (inl_take ys b i (by rw [unhide HL]; exact hlt) hn)
      have HA := hide (inl_at ys i (by rw [unhide HL]; exact hlt))
      clear hn
      generalize ys.getD i 0 = y at *
      by_cases hy : b = y
      · subst hy
        go_wp2_with fail
        go_ret
        exact ⟨⟨(i : Int), rfl, by unfold Fnd; rw [unhide HA]; simp⟩, rfl⟩
      · have d : (b == y) = false := beq_eq_false_iff_ne.2 hy
        have hy2 := hide d
        go_wp2_with fail
        exact ⟨⟨i + 1, by omega, by go_num, by rw [unhide HS, unhide hy2]⟩, by simp [intOf]; omega⟩
    · obtain rfl : i = x2 := by omega
      rw [List.take_of_length_le (by rw [unhide HL]; omega)] at hn
      have HN := hide hn
      clear hn
      go_wp2_with fail
      go_ret
      exact ⟨⟨-1, rfl, by unfold Fnd; rw [unhide HN]; decide⟩, rfl⟩
set_option maxHeartbeats 1000000 in
set_option maxRecDepth 100000 in
theorem contains_any {x1 : Option Addr} {x2 x3 : Nat} {ys : List Int} {b : Int} {W : World} (h : Sl W x1 x2 x3 ys) :
    Calls Tryz.prog 100 #[.slice x1 x2 x3, .int .u8 b] W fun r W' => r = .returned (.bool (inl ys b)) ∧ W' = W := by
  have HI := hide (index_any (b := b) h)
  clear h
  generalize inl ys b = t at *
  go_enter Tryz.func100, Tryz.ntmps100
  go_wp2_with fail
  refine (unhide HI).mono ?_
  rintro _ w1 ⟨⟨i, rfl, hi⟩, rfl⟩
  have HQ := hide hi
  clear hi
  go_wp2_with fail
  go_ret
  exact ⟨by have := unhide HQ; unfold Fnd at this; rw [← this]; rfl, rfl⟩
set_option maxHeartbeats 1000000 in
set_option maxRecDepth 100000 in
theorem oneOf1_any {c : Nat} {a : Option Addr} {len cap k : Nat} {xs : List Int} {p1 p2 p3 : Nat} {z : Int} {l1 : Option Addr} {l2 l3 : Nat} {ys : List Int} {W : World} (hS : Sl W l1 l2 l3 ys) (hP : ∀ p, l1 = some p → 0 < l2 → p.block ≠ c)
    (n1 : p1 ≠ c) (n2 : p2 ≠ c) (n3 : p3 ≠ c) (h : Cs c a len cap xs k 0 W) (hB : Bx p1 (.pointer (some ⟨c, 0, none⟩)) W ∧ Bx p2 (.slice l1 l2 l3) W ∧ Bx p3 (.int .i64 z) W) :
    Calls Tryz.prog 99 #[.pointer (some ⟨p1, 0, none⟩), .pointer (some ⟨p2, 0, none⟩), .pointer (some ⟨p3, 0, none⟩)] W fun r W' => ∃ v, r = .returned v ∧ v = .int .u8 (lift rB 0 xs k 0).1 ∧ Cs c a len cap xs (lift rB 0 xs k 0).2.1 (chE (inl ys (lift rB 0 xs k 0).1) (lift rB 0 xs k 0).2.2 z) W' ∧ Fr [c] W W' := by
  have HY := hide (byte_any h)
  generalize lift rB 0 xs k 0 = L at *
  obtain ⟨y, k1, e1⟩ := L
  have HS := hide hS
  have HP := hide hP
  have HN1 := hide n1
  have HN2 := hide n2
  have HN3 := hide n3
  have hb1 := hB.1
  unfold Bx at hb1
  have HB0 := hide hB
  clear h hB hS hP n1 n2 n3
  dsimp only at *
  go_enter Tryz.func99, Tryz.ntmps99
  go_wp2_with fail
  refine (unhide HY).mono ?_
  rintro _ w1 ⟨rfl, hC, hF⟩
  have HC := hide (contains_any (b := y) ((unhide HS).fr hF (fun p hp h0 => by simpa using unhide HP p hp h0)))
  have HB0 := hide (And.intro ((unhide HB0).1.fr hF (by simpa using unhide HN1)) (And.intro ((unhide HB0).2.1.fr hF (by simpa using unhide HN2)) ((unhide HB0).2.2.fr hF (by simpa using unhide HN3))))
  have H := hide hC
  have HF := hide hF
  have hb2 := (unhide HB0).2.1
  unfold Bx at hb2
  clear hC hF hb1
  obtain ⟨t, ht⟩ : ∃ t, inl ys y = t := ⟨_, rfl⟩
  rw [ht] at HC
  have HT := hide ht
  clear ht
  go_wp2_with fail
  refine (unhide HC).mono ?_
  rintro _ w2 ⟨rfl, rfl⟩
  clear hb2
  cases t
  · have HB := hide (show Bx p1 (.pointer (some ⟨c, 0, none⟩)) w2.drew ∧ Bx p3 (.int .i64 z) w2.drew from ⟨(unhide HB0).1, (unhide HB0).2.2⟩)
    have H := hide ((unhide H).drew)
    have HF := hide ((unhide HF).drew)
    go_wp2_with fail
    refine wp_region_held_drew (S := fun w' => w'.cell? ⟨p1, 0, none⟩ = some (.pointer (some ⟨c, 0, none⟩)) ∧ w'.cell? ⟨p3, 0, none⟩ = some (.int .i64 z)) (by kernel_rfl) ?_ (fun hHeld => ?_)
    · (try dsimp only)
      exact unhide HB
    refine lst0 5 (by kernel_rfl) ?_
    refine tkA 0 11 1 ?_
    refine tkA 1 12 3 ?_
    refine tkA 2 13 7 ?_
    refine tkA 3 14 15 ?_
    refine rdA 4 31 (fun Kk hKk => ?_)
    go_simp
    refine (fail_any (unhide H)).mono ?_
    rintro _ w4 ⟨rfl, hC, hF⟩
    have HB := hide (And.intro ((unhide HB).1.fr hF (by simpa using unhide HN1)) ((unhide HB).2.fr hF (by simpa using unhide HN3)))
    have H := hide hC
    have HF := hide ((unhide HF).trans hF)
    clear hC hF
    (try go_wp2_with fail)
    refine hKk.out _ _ ?_ (fun hHeld => ?_)
    · (try dsimp only)
      exact unhide HB
    clear hKk Kk
    (try simp only [List.setIfInBounds_toArray, List.set_cons_zero, List.set_cons_succ])
    refine wpAnyH_done (by kernel_rfl) ?_ _
    go_wp2_with fail
    go_ret
    exact ⟨_, rfl, rfl, by rw [unhide HT]; exact unhide H, unhide HF⟩
  · go_wp2_with fail
    go_ret
    exact ⟨_, rfl, rfl, by rw [unhide HT]; exact unhide H, unhide HF⟩
theorem oneOf_any {c : Nat} {a : Option Addr} {len cap k : Nat} {xs : List Int} {e z : Int} {l1 : Option Addr} {l2 l3 : Nat} {ys : List Int} {W : World} (h : Cs c a len cap xs k e W) (hz : z ≠ 0) (hS : Sl W l1 l2 l3 ys) (hP : ∀ p, l1 = some p → 0 < l2 → p.block ≠ c) :
    Calls Tryz.prog 68 #[.pointer (some ⟨c, 0, none⟩), .int .i64 z, .slice l1 l2 l3] W fun r W' => r = .returned (.int .u8 (lift (rOne ys z) 0 xs k e).1) ∧ Cs c a len cap xs (lift (rOne ys z) 0 xs k e).2.1 (lift (rOne ys z) 0 xs k e).2.2 W' ∧ Fr [c] W W' := by
  by_cases he : e = 0
  · subst he
    have hL : lift (rOne ys z) 0 xs k 0 = (pk (chE (inl ys (lift rB 0 xs k 0).1) (lift rB 0 xs k 0).2.2 z) (lift rB 0 xs k 0).1 0, back (chE (inl ys (lift rB 0 xs k 0).1) (lift rB 0 xs k 0).2.2 z) (lift rB 0 xs k 0).2.1 k, chE (inl ys (lift rB 0 xs k 0).1) (lift rB 0 xs k 0).2.2 z) := by
      unfold rOne
      obtain ⟨⟨y, k1, e1⟩, hB⟩ : ∃ t, lift rB 0 xs k 0 = t := ⟨_, rfl⟩
      rw [hB]
      dsimp only
      cases ht : inl ys y
      · have h2 : lift (tst (inl ys y) y 0 z) 0 xs k1 e1 = (0, k1, if e1 = 0 then z else e1) := by rw [ht]; exact lift_tst_f _ _ _ _ _
        refine (seq hB h2).trans ?_
        rw [show chE false e1 z = (if e1 = 0 then z else e1) from rfl]
        by_cases h1 : e1 = 0
        · rw [if_pos h1, pk_e hz, pk_e hz]
        · rw [if_neg h1, pk_e h1, pk_e h1]
      · have h2 : lift (tst (inl ys y) y 0 z) 0 xs k1 e1 = (pk e1 y 0, k1, e1) := by rw [ht]; exact lift_tst_t _ _ _ _ _ _ _
        refine (seq hB h2).trans ?_
        rw [show chE true e1 z = e1 from rfl, pk_pk]
    rw [hL]
    refine (oneOf_live (V := fun _ v _ => v = .int .u8 (lift rB 0 xs k 0).1) (J := fun w => Sl w l1 l2 l3 ys) (fun w w' h hb => h.below hb) (hide fun W q0 q1 q2 hJ n0 n1 n2 hC hB => oneOf1_any hJ hP n0 n2 n1 hC hB) hS h).mono ?_
    rintro _ w ⟨v, rfl, hV, hC, hF⟩
    exact ⟨by rw [Got.pk (mk := Value.int .u8) hV], hC, hF⟩
  · rw [lift_e _ _ _ _ he]
    exact oneOf_dead h he
set_option maxHeartbeats 1000000 in
set_option maxRecDepth 100000 in
theorem flag_any {c : Nat} {a : Option Addr} {len cap k : Nat} {xs : List Int} {e : Int} {W : World} (h : Cs c a len cap xs k e W) :
    Calls Tryz.prog 144 #[.pointer (some ⟨c, 0, none⟩)] W fun r W' => r = .returned (.bool ((lift (rOne [0, 1] 107) 0 xs k e).1 == 1)) ∧ Cs c a len cap xs (lift (rOne [0, 1] 107) 0 xs k e).2.1 (lift (rOne [0, 1] 107) 0 xs k e).2.2 W' ∧ Fr [c] W W' := by
  have HN := hide (oneOf_any (z := 107) (h.alloc (.cells #[.int .u8 0, .int .u8 1] 5)) (by decide) (sl_lit W [0, 1] 2 rfl (by omega)) (fun p hp _ => by injection hp with hp; subst hp; have := h.1.lt; show W.heap.size ≠ c; omega))
  clear h
  generalize lift (rOne [0, 1] 107) 0 xs k e = L at *
  obtain ⟨y, k1, e1⟩ := L
  dsimp only at *
  go_enter Tryz.func144, Tryz.ntmps144
  go_wp2_with fail
  refine (unhide HN).mono ?_
  rintro _ w1 ⟨rfl, hC, hF⟩
  have HC := hide hC
  have HF := hide ((Fr.of (below1 W (.cells #[.int .u8 0, .int .u8 1] 5)) [c]).trans hF)
  clear hC hF
  go_wp2_with fail
  go_ret
  exact ⟨rfl, unhide HC, unhide HF⟩
set_option maxHeartbeats 1000000 in
set_option maxRecDepth 100000 in
theorem value_any {c : Nat} {a : Option Addr} {len cap k : Nat} {xs : List Int} {e : Int} {W : World} (h : Cs c a len cap xs k e W) :
    Calls Tryz.prog 39 #[.pointer (some ⟨c, 0, none⟩)] W fun r W' => r = .returned (.int .u8 (lift (rOne [127, 126, 125, 124] 106) 0 xs k e).1) ∧ Cs c a len cap xs (lift (rOne [127, 126, 125, 124] 106) 0 xs k e).2.1 (lift (rOne [127, 126, 125, 124] 106) 0 xs k e).2.2 W' ∧ Fr [c] W W' := by
  have HN := hide (oneOf_any (z := 106) (h.alloc (.cells #[.int .u8 127, .int .u8 126, .int .u8 125, .int .u8 124] 5)) (by decide) (sl_lit W [127, 126, 125, 124] 4 rfl (by omega)) (fun p hp _ => by injection hp with hp; subst hp; have := h.1.lt; show W.heap.size ≠ c; omega))
  clear h
  generalize lift (rOne [127, 126, 125, 124] 106) 0 xs k e = L at *
  obtain ⟨y, k1, e1⟩ := L
  dsimp only at *
  go_enter Tryz.func39, Tryz.ntmps39
  go_wp2_with fail
  refine (unhide HN).mono ?_
  rintro _ w1 ⟨rfl, hC, hF⟩
  have HC := hide hC
  have HF := hide ((Fr.of (below1 W (.cells #[.int .u8 127, .int .u8 126, .int .u8 125, .int .u8 124] 5)) [c]).trans hF)
  clear hC hF
  go_wp2_with fail
  go_ret
  exact ⟨rfl, unhide HC, unhide HF⟩
set_option maxHeartbeats 1000000 in
set_option maxRecDepth 100000 in
theorem results_any {c : Nat} {a : Option Addr} {len cap k : Nat} {xs : List Int} {e : Int} {W : World} (h : Cs c a len cap xs k e W) :
    Calls Tryz.prog 185 #[.pointer (some ⟨c, 0, none⟩)] W fun r W' => r = .returned (.int .u8 (if (lift (rOne [127, 126, 125, 124, 64] 106) 0 xs k e).1 = 64 then 0 else (lift (rOne [127, 126, 125, 124, 64] 106) 0 xs k e).1)) ∧ Cs c a len cap xs (lift (rOne [127, 126, 125, 124, 64] 106) 0 xs k e).2.1 (lift (rOne [127, 126, 125, 124, 64] 106) 0 xs k e).2.2 W' ∧ Fr [c] W W' := by
  have HN := hide (oneOf_any (z := 106) (h.alloc (.cells #[.int .u8 127, .int .u8 126, .int .u8 125, .int .u8 124, .int .u8 64] 5)) (by decide) (sl_lit W [127, 126, 125, 124, 64] 5 rfl (by omega)) (fun p hp _ => by injection hp with hp; subst hp; have := h.1.lt; show W.heap.size ≠ c; omega))
  clear h
  generalize lift (rOne [127, 126, 125, 124, 64] 106) 0 xs k e = L at *
  obtain ⟨y, k1, e1⟩ := L
  dsimp only at *
  go_enter Tryz.func185, Tryz.ntmps185
  go_wp2_with fail
  refine (unhide HN).mono ?_
  rintro _ w1 ⟨rfl, hC, hF⟩
  have HC := hide hC
  have HF := hide ((Fr.of (below1 W (.cells #[.int .u8 127, .int .u8 126, .int .u8 125, .int .u8 124, .int .u8 64] 5)) [c]).trans hF)
  clear hC hF
  by_cases hy : y = 64
  · subst hy
    go_wp2_with fail
    go_ret
    exact ⟨rfl, unhide HC, unhide HF⟩
  · have d : (y == 64) = false := beq_eq_false_iff_ne.2 hy
    go_wp2_with fail
    go_ret
    exact ⟨rfl, unhide HC, unhide HF⟩
end Go.Proofs.YtjoonmpjcophnaaGreatDoor
