/- ScK. -/
import Derived.Test.YtalahdkgigcpfaaDoorC26
namespace Go.Proofs.YtalahdkgigcpfaaDoor
open Go.RowKit

theorem seq_tst {A B : Type} {z1 : A} {z : B} {f : Rr A} {p : A → Bool} {g : A → B} {er : Int} {xs : List Int} {k k1 : Nat} {e e1 : Int} {x : A} (h1 : lift f z1 xs k e = (x, k1, e1)) (hz : er ≠ 0) :
    lift (bnd z f fun x => tst (p x) (g x) z er) z xs k e = (pk (chE (p x) e1 er) (g x) z, back (chE (p x) e1 er) k1 k, chE (p x) e1 er) := by
  cases ht : p x
  · have h2 : lift (tst (p x) (g x) z er) z xs k1 e1 = (z, k1, if e1 = 0 then er else e1) := by rw [ht]; exact lift_tst_f _ _ _ _ _
    refine (seq h1 h2).trans ?_
    rw [show chE false e1 er = (if e1 = 0 then er else e1) from rfl]
    by_cases h : e1 = 0
    · rw [if_pos h, pk_e hz, pk_e hz]
    · rw [if_neg h, pk_e h, pk_e h]
  · have h2 : lift (tst (p x) (g x) z er) z xs k1 e1 = (pk e1 (g x) z, k1, e1) := by rw [ht]; exact lift_tst_t _ _ _ _ _ _ _
    refine (seq h1 h2).trans ?_
    rw [show chE true e1 er = e1 from rfl, pk_pk]
set_option maxHeartbeats 1000000 in
set_option maxRecDepth 100000 in
theorem count1_any {c : Nat} {a : Option Addr} {len cap k : Nat} {xs : List Int} {q k1 : Nat} {y e1 : Int} {W : World}
    (HU : Hid (∀ W, Cs c a len cap xs k 0 W → Calls Tryd.prog 50 #[.pointer (some ⟨c, 0, none⟩)] W fun r W' => r = .returned (.int .u32 y) ∧ Cs c a len cap xs k1 e1 W' ∧ Fr [c] W W'))
    (y0 : 0 ≤ y) (y1 : y < 4294967296) (n0 : q ≠ c) (h : Cs c a len cap xs k 0 W) (hB : Bx q (.pointer (some ⟨c, 0, none⟩)) W) :
    Calls Tryd.prog 92 #[.pointer (some ⟨q, 0, none⟩)] W fun r W' => ∃ v, r = .returned v ∧ v = .int .i64 y ∧ Cs c a len cap xs k1 (chE (decide (y ≤ 4096)) e1 3) W' ∧ Fr [c] W W' := by
  have HB := hide hB
  have HN := hide n0
  have H := hide h
  unfold Bx at hB
  clear h n0
  go_enter Tryd.func92, Tryd.ntmps92
  go_wp2_with fail
  refine (unhide HU _ (unhide H)).mono ?_
  rintro _ w1 ⟨rfl, hC, hF⟩
  have HB := hide ((unhide HB).fr hF (by simpa using unhide HN))
  have H := hide hC
  have HF := hide hF
  clear hC hF hB
  by_cases hy : y ≤ 4096
  · have hy' : ¬ 4096 < y := by omega
    go_wp2_with fail
    go_ret
    exact ⟨_, rfl, rfl, by rw [decide_eq_true hy]; exact unhide H, unhide HF⟩
  · have hy' : 4096 < y := by omega
    have hb1 := unhide HB
    unfold Bx at hb1
    clear hy
    go_wp2_with fail
    refine (fail_any (unhide H)).mono ?_
    rintro _ w4 ⟨rfl, hC, hF⟩
    have H := hide hC
    have HF := hide ((unhide HF).trans hF)
    clear hC hF hb1
    go_wp2_with fail
    go_ret
    exact ⟨_, rfl, rfl, by rw [decide_eq_false (by omega)]; exact unhide H, unhide HF⟩
theorem count_any' {c : Nat} {a : Option Addr} {len cap k : Nat} {xs : List Int} {e : Int} {W : World} (h : Cs c a len cap xs k e W) :
    Calls Tryd.prog 72 #[.pointer (some ⟨c, 0, none⟩)] W fun r W' => r = .returned (.int .i64 (lift rCount 0 xs k e).1) ∧ Cs c a len cap xs (lift rCount 0 xs k e).2.1 (lift rCount 0 xs k e).2.2 W' ∧ Fr [c] W W' := by
  by_cases he : e = 0
  · subst he
    have hlt := liftU_lt h.2.2.2.1 k 0
    have HU := fun W h => u32_any (c := c) (a := a) (len := len) (cap := cap) (xs := xs) (k := k) (e := 0) (W := W) h
    obtain ⟨⟨y, k1, e1⟩, hU⟩ : ∃ t, lift (rU 32) 0 xs k 0 = t := ⟨_, rfl⟩
    rw [hU] at hlt HU
    dsimp only at hlt HU
    have hL : lift rCount 0 xs k 0 = (pk (chE (decide (y ≤ 4096)) e1 3) y 0, back (chE (decide (y ≤ 4096)) e1 3) k1 k, chE (decide (y ≤ 4096)) e1 3) := by
      unfold rCount
      exact seq_tst (p := fun n => decide (n ≤ 4096)) (g := id) hU (by decide)
    rw [hL]
    refine (Count_live (V := fun _ v _ => v = .int .i64 y) (hide fun W q0 n0 hC hB => count1_any (hide HU) hlt.1 hlt.2 n0 hC hB) h).mono ?_
    rintro _ w ⟨v, rfl, hV, hC, hF⟩
    exact ⟨by rw [Got.pk (mk := Value.int .i64) hV], hC, hF⟩
  · rw [lift_e _ _ _ _ he]
    exact Count_dead h he
theorem count_le {xs : List Int} (h : Byt xs) (k : Nat) (e : Int) : 0 ≤ (lift rCount 0 xs k e).1 ∧ (lift rCount 0 xs k e).1 ≤ 4096 := by
  have hlt := liftU_lt h k e
  obtain ⟨⟨y, k1, e1⟩, hU⟩ : ∃ t, lift (rU 32) 0 xs k e = t := ⟨_, rfl⟩
  rw [hU] at hlt
  have hL : lift rCount 0 xs k e = (pk (chE (decide (y ≤ 4096)) e1 3) y 0, back (chE (decide (y ≤ 4096)) e1 3) k1 k, chE (decide (y ≤ 4096)) e1 3) := by
    unfold rCount
    exact seq_tst (p := fun n => decide (n ≤ 4096)) (g := id) hU (by decide)
  rw [hL]
  show 0 ≤ pk (chE (decide (y ≤ 4096)) e1 3) y 0 ∧ pk (chE (decide (y ≤ 4096)) e1 3) y 0 ≤ 4096
  by_cases hy : y ≤ 4096
  · unfold pk; split
    · exact ⟨hlt.1, hy⟩
    · exact ⟨Int.le_refl _, by decide⟩
  · rw [decide_eq_false hy]
    have : chE false e1 3 ≠ 0 := by
      show (if e1 = 0 then (3 : Int) else e1) ≠ 0
      split
      · decide
      · assumption
    rw [pk_e this]
    exact ⟨Int.le_refl _, by decide⟩
end Go.Proofs.YtalahdkgigcpfaaDoor
