/- ScK. -/
import Derived.Test.YtjoonmpjcophnaaGreatDoorUa18
import Derived.Test.YtjoonmpjcophnaaGreatDoorUa27
namespace Go.Proofs.YtjoonmpjcophnaaGreatDoor
open Go.RowKit

theorem seq_tst {A B : Type} {z1 : A} {z : B} {f : Rr A} {p : A → Bool} {g : A → B} {er : Int} {xs : List Int} {k k1 : Nat} {e e1 : Int} {x : A} (h1 : lift f z1 xs k e = (x, k1, e1)) (hz : er ≠ 0) :
    lift (bnd z f fun x => tst (p x) (g x) z er) z xs k e = (pk (chE (p x) e1 er) (g x) z, back (chE (p x) e1 er) k1 k, chE (p x) e1 er) := by
  cases ht : p x
  · have h2 : lift (tst (p x) (g x) z er) z xs k1 e1 = (z, k1, if e1 = 0 then er else e1) := by rw [ht]; exact lift_tst_f _ _ _ _ _
    refine (seq h1 h2).trans ?_
    rw [show chE false e1 er = (if e1 = 0 then er else e1) from rfl]
    by_cases h : e1 = 0
    · rw [if_pos h, pk_e hz, pk_e hz]
    · rw [if_neg h, pk_e h, pk_e h]
  · have h2 : lift (tst (p x) (g x) z er) z xs k1 e1 = (pk e1 (g x) z, k1, e1) := by rw [ht]; exact lift_tst_t _ _ _ _ _ _ _
    refine (seq h1 h2).trans ?_
    rw [show chE true e1 er = e1 from rfl, pk_pk]
theorem seq_back {A B : Type} {z1 : A} {z : B} {f : Rr A} {g : A → Rr B} {xs : List Int} {k k1 k3 : Nat} {e e1 e3 : Int} {x : A} {y : B} (h1 : lift f z1 xs k e = (x, k1, e1)) (h2 : lift (g x) z xs k1 e1 = (pk e3 y z, back e3 k3 k1, e3)) :
    lift (bnd z f g) z xs k e = (pk e3 y z, back e3 k3 k, e3) := by
  refine (seq h1 h2).trans ?_
  rw [pk_pk, back_back]
theorem lift_byt {xs : List Int} (h : Byt xs) (n k : Nat) (e : Int) : Byt (lift (rP n) [] xs k e).1 := by
  by_cases he : e = 0
  · subst he
    rw [lift_0]
    by_cases hq : n ≤ (xs.drop k).length
    · rw [rP_ok hq]; exact fun x hx => byt_dropS h k x (List.mem_of_mem_take hx)
    · rw [rP_no hq]; intro x hx; simp at hx
  · rw [lift_e _ _ _ _ he]; intro x hx; simp at hx
set_option maxHeartbeats 1000000 in
set_option maxRecDepth 100000 in
theorem name1_any {c : Nat} {a : Option Addr} {len cap k : Nat} {xs : List Int} {q n k1 k2 : Nat} {e1 e2 : Int} {b : List Int} {W : World}
    (HU : Hid (∀ W, Cs c a len cap xs k 0 W → Calls Tryz.prog 38 #[.pointer (some ⟨c, 0, none⟩)] W fun r W' => r = .returned (.int .u32 (n : Int)) ∧ Cs c a len cap xs k1 e1 W' ∧ Fr [c] W W'))
    (HP : Hid (∀ W, Cs c a len cap xs k1 e1 W → Calls Tryz.prog 104 #[.pointer (some ⟨c, 0, none⟩), .int .u32 (n : Int)] W fun r W' => ∃ x1 x2 x3, r = .returned (.slice x1 x2 x3) ∧ Sl W' x1 x2 x3 b ∧ (∀ p, x1 = some p → 0 < x2 → p.block ≠ c) ∧ Cs c a len cap xs k2 e2 W' ∧ Fr [c] W W'))
    (HY : Hid (Byt b)) (n0 : q ≠ c) (h : Cs c a len cap xs k 0 W) (hB : Bx q (.pointer (some ⟨c, 0, none⟩)) W) :
    Calls Tryz.prog 136 #[.pointer (some ⟨q, 0, none⟩)] W fun r W' => ∃ v, r = .returned v ∧ v = .string (strOfNums b) ∧ Cs c a len cap xs k2 (chE (cnt b).isSome e2 102) W' ∧ Fr [c] W W' := by
  have H := hide h.drew
  have HF := hide ((Fr.refl [c] W).drew)
  have HB := hide (show Bx q (.pointer (some ⟨c, 0, none⟩)) W.drew from hB)
  have HN := hide n0
  clear h hB n0
  go_enter Tryz.func136, Tryz.ntmps136
  go_wp2_with fail
  refine wp_region_held_drew (S := fun w' => w'.cell? ⟨q, 0, none⟩ = some (.pointer (some ⟨c, 0, none⟩))) (by kernel_rfl) ?_ (fun hHeld => ?_)
  · (try dsimp only)
    exact unhide HB
  refine lst0 5 (by kernel_rfl) ?_
  refine tkA 0 3 1 ?_
  refine tkA 1 4 3 ?_
  refine rdA 2 7 (fun Kk hKk => ?_)
  go_simp
  refine (unhide HU _ (unhide H)).mono ?_
  rintro _ w1 ⟨rfl, hC, hF⟩
  have HB := hide ((unhide HB).fr hF (by simpa using unhide HN))
  have H := hide hC
  have HF := hide ((unhide HF).trans hF)
  clear hC hF
  (try go_wp2_with fail)
  refine hKk.out _ _ ?_ (fun hHeld => ?_)
  · (try dsimp only)
    exact unhide HB
  clear hKk Kk
  (try simp only [List.setIfInBounds_toArray, List.set_cons_zero, List.set_cons_succ])
  refine rdA 3 15 (fun Kk hKk => ?_)
  go_simp
  refine (unhide HP _ (unhide H)).mono ?_
  rintro _ w2 ⟨x1, x2, x3, rfl, hS, hp, hC, hF⟩
  have HS := hide hS
  have HPP := hide hp
  clear hS hp
  have HB := hide ((unhide HB).fr hF (by simpa using unhide HN))
  have H := hide hC
  have HF := hide ((unhide HF).trans hF)
  clear hC hF
  (try go_wp2_with fail)
  refine hKk.out _ _ ?_ (fun hHeld => ?_)
  · (try dsimp only)
    exact unhide HB
  clear hKk Kk
  (try simp only [List.setIfInBounds_toArray, List.set_cons_zero, List.set_cons_succ])
  refine tkA 4 2 31 ?_
  refine wpAnyH_done (by kernel_rfl) ?_ _
  have HV := hide (valid_any (unhide HY) (unhide HS))
  obtain ⟨t, ht⟩ : ∃ t, (cnt b).isSome = t := ⟨_, rfl⟩
  rw [ht] at HV
  have HT := hide ht
  clear ht
  go_wp2_with fail
  refine (unhide HV).mono ?_
  rintro _ w3 ⟨rfl, hb⟩
  have HB := hide ((unhide HB).bel hb)
  have H := hide ((unhide H).bel hb)
  have HF := hide ((unhide HF).bel hb)
  have HS := hide ((unhide HS).below hb)
  clear hb
  cases t
  · have hb1 := unhide HB
    unfold Bx at hb1
    go_wp2_with fail
    refine (fail_any (unhide H)).mono ?_
    rintro _ w4 ⟨rfl, hC, hF⟩
    have hcv := conv_run ((unhide HS).fr hF (fun p hp h0 => by simpa using unhide HPP p hp h0))
    have H := hide hC
    have HF := hide ((unhide HF).trans hF)
    clear hC hF hb1
    go_wp2_with fail
    go_ret
    exact ⟨_, rfl, rfl, by rw [unhide HT]; exact unhide H, unhide HF⟩
  · have hcv := conv_run (unhide HS)
    go_wp2_with fail
    go_ret
    exact ⟨_, rfl, rfl, by rw [unhide HT]; exact unhide H, unhide HF⟩
theorem name_any {c : Nat} {a : Option Addr} {len cap k : Nat} {xs : List Int} {e : Int} {W : World} (h : Cs c a len cap xs k e W) :
    Calls Tryz.prog 105 #[.pointer (some ⟨c, 0, none⟩)] W fun r W' => r = .returned (.string (strOfNums (lift rName [] xs k e).1)) ∧ Cs c a len cap xs (lift rName [] xs k e).2.1 (lift rName [] xs k e).2.2 W' ∧ Fr [c] W W' := by
  by_cases he : e = 0
  · subst he
    have hlt := liftU_lt h.2.2.2.1 k 0
    have hx := h.2.2.2.1
    have HU := fun W h => u32_any (c := c) (a := a) (len := len) (cap := cap) (xs := xs) (k := k) (e := 0) (W := W) h
    obtain ⟨⟨y, k1, e1⟩, hU⟩ : ∃ t, lift (rU 32) 0 xs k 0 = t := ⟨_, rfl⟩
    rw [hU] at hlt HU
    dsimp only at hlt HU
    obtain ⟨n, rfl⟩ := Int.eq_ofNat_of_zero_le hlt.1
    have hy := lift_byt hx n k1 e1
    have HP := fun W h => piece_any (c := c) (a := a) (len := len) (cap := cap) (xs := xs) (k := k1) (e := e1) (n := n) (W := W) h (by omega)
    obtain ⟨⟨b, k2, e2⟩, hP⟩ : ∃ t, lift (rP n) [] xs k1 e1 = t := ⟨_, rfl⟩
    rw [hP] at HP hy
    dsimp only at HP hy
    have hL : lift rName [] xs k 0 = (pk (chE (cnt b).isSome e2 102) b [], back (chE (cnt b).isSome e2 102) k2 k, chE (cnt b).isSome e2 102) := by
      unfold rName
      refine seq_back hU ?_
      rw [Int.toNat_natCast]
      exact seq_tst (g := id) hP (by decide)
    rw [hL]
    refine (Name_live (V := fun _ v _ => v = .string (strOfNums b)) (hide fun W q0 n0 hC hB => name1_any (hide HU) (hide HP) (hide hy) n0 hC hB) h).mono ?_
    rintro _ w ⟨v, rfl, hV, hC, hF⟩
    exact ⟨by rw [Got.pk (mk := fun l => Value.string (strOfNums l)) (z0 := []) hV], hC, hF⟩
  · rw [lift_e _ _ _ _ he]
    exact Name_dead h he
set_option maxHeartbeats 1000000 in
set_option maxRecDepth 100000 in
theorem count1_any {c : Nat} {a : Option Addr} {len cap k : Nat} {xs : List Int} {q k1 : Nat} {y e1 : Int} {W : World}
    (HU : Hid (∀ W, Cs c a len cap xs k 0 W → Calls Tryz.prog 38 #[.pointer (some ⟨c, 0, none⟩)] W fun r W' => r = .returned (.int .u32 y) ∧ Cs c a len cap xs k1 e1 W' ∧ Fr [c] W W'))
    (y0 : 0 ≤ y) (y1 : y < 4294967296) (n0 : q ≠ c) (h : Cs c a len cap xs k 0 W) (hB : Bx q (.pointer (some ⟨c, 0, none⟩)) W) :
    Calls Tryz.prog 93 #[.pointer (some ⟨q, 0, none⟩)] W fun r W' => ∃ v, r = .returned v ∧ v = .int .i64 y ∧ Cs c a len cap xs k1 (chE (decide (y ≤ 4096)) e1 3) W' ∧ Fr [c] W W' := by
  have HB := hide hB
  have HN := hide n0
  have H := hide h
  unfold Bx at hB
  clear h n0
  go_enter Tryz.func93, Tryz.ntmps93
  go_wp2_with fail
  refine (unhide HU _ (unhide H)).mono ?_
  rintro _ w1 ⟨rfl, hC, hF⟩
  have HB := hide ((unhide HB).fr hF (by simpa using unhide HN))
  have H := hide hC
  have HF := hide hF
  clear hC hF hB
  by_cases hy : y ≤ 4096
  · have hy' : ¬ 4096 < y := by omega
    go_wp2_with fail
    go_ret
    exact ⟨_, rfl, rfl, by rw [decide_eq_true hy]; exact unhide H, unhide HF⟩
  · have hy' : 4096 < y := by omega
    have hb1 := unhide HB
    unfold Bx at hb1
    clear hy
    go_wp2_with fail
    refine (fail_any (unhide H)).mono ?_
    rintro _ w4 ⟨rfl, hC, hF⟩
    have H := hide hC
    have HF := hide ((unhide HF).trans hF)
    clear hC hF hb1
    go_wp2_with fail
    go_ret
    exact ⟨_, rfl, rfl, by rw [decide_eq_false (by omega)]; exact unhide H, unhide HF⟩
theorem count_any' {c : Nat} {a : Option Addr} {len cap k : Nat} {xs : List Int} {e : Int} {W : World} (h : Cs c a len cap xs k e W) :
    Calls Tryz.prog 65 #[.pointer (some ⟨c, 0, none⟩)] W fun r W' => r = .returned (.int .i64 (lift rCount 0 xs k e).1) ∧ Cs c a len cap xs (lift rCount 0 xs k e).2.1 (lift rCount 0 xs k e).2.2 W' ∧ Fr [c] W W' := by
  by_cases he : e = 0
  · subst he
    have hlt := liftU_lt h.2.2.2.1 k 0
    have HU := fun W h => u32_any (c := c) (a := a) (len := len) (cap := cap) (xs := xs) (k := k) (e := 0) (W := W) h
    obtain ⟨⟨y, k1, e1⟩, hU⟩ : ∃ t, lift (rU 32) 0 xs k 0 = t := ⟨_, rfl⟩
    rw [hU] at hlt HU
    dsimp only at hlt HU
    have hL : lift rCount 0 xs k 0 = (pk (chE (decide (y ≤ 4096)) e1 3) y 0, back (chE (decide (y ≤ 4096)) e1 3) k1 k, chE (decide (y ≤ 4096)) e1 3) := by
      unfold rCount
      exact seq_tst (p := fun n => decide (n ≤ 4096)) (g := id) hU (by decide)
    rw [hL]
    refine (Count_live (V := fun _ v _ => v = .int .i64 y) (hide fun W q0 n0 hC hB => count1_any (hide HU) hlt.1 hlt.2 n0 hC hB) h).mono ?_
    rintro _ w ⟨v, rfl, hV, hC, hF⟩
    exact ⟨by rw [Got.pk (mk := Value.int .i64) hV], hC, hF⟩
  · rw [lift_e _ _ _ _ he]
    exact Count_dead h he
theorem count_le {xs : List Int} (h : Byt xs) (k : Nat) (e : Int) : 0 ≤ (lift rCount 0 xs k e).1 ∧ (lift rCount 0 xs k e).1 ≤ 4096 := by
  have hlt := liftU_lt h k e
  obtain ⟨⟨y, k1, e1⟩, hU⟩ : ∃ t, lift (rU 32) 0 xs k e = t := ⟨_, rfl⟩
  rw [hU] at hlt
  have hL : lift rCount 0 xs k e = (pk (chE (decide (y ≤ 4096)) e1 3) y 0, back (chE (decide (y ≤ 4096)) e1 3) k1 k, chE (decide (y ≤ 4096)) e1 3) := by
    unfold rCount
    exact seq_tst (p := fun n => decide (n ≤ 4096)) (g := id) hU (by decide)
  rw [hL]
  show 0 ≤ pk (chE (decide (y ≤ 4096)) e1 3) y 0 ∧ pk (chE (decide (y ≤ 4096)) e1 3) y 0 ≤ 4096
  by_cases hy : y ≤ 4096
  · unfold pk; split
    · exact ⟨hlt.1, hy⟩
    · exact ⟨Int.le_refl _, by decide⟩
  · rw [decide_eq_false hy]
    have : chE false e1 3 ≠ 0 := by
      show (if e1 = 0 then (3 : Int) else e1) ≠ 0
      split
      · decide
      · assumption
    rw [pk_e this]
    exact ⟨Int.le_refl _, by decide⟩
end Go.Proofs.YtjoonmpjcophnaaGreatDoor
