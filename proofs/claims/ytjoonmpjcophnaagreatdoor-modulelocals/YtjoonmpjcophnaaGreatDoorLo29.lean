/- Set2, RfD. -/
import Derived.Test.YtjoonmpjcophnaaGreatDoorLo01
import Derived.Test.YtjoonmpjcophnaaGreatDoorLo02
import Derived.Test.YtjoonmpjcophnaaGreatDoorLo13
import Derived.Test.YtjoonmpjcophnaaGreatDoorLo24
import Derived.Test.YtjoonmpjcophnaaGreatDoorLo26
namespace Go.Proofs.YtjoonmpjcophnaaGreatDoor
open Go.RowKit
def At4 (b : Nat) (x y z u : Value) (w : World) : Prop := w.cell? ⟨b, 0, none⟩ = some x ∧ w.cell? ⟨b, 1, none⟩ = some y ∧ w.cell? ⟨b, 2, none⟩ = some z ∧ w.cell? ⟨b, 3, none⟩ = some u
theorem At4.below {b : Nat} {x y z u : Value} {w w' : World} (h : At4 b x y z u w) (hb : Below w.heap.size w w') : At4 b x y z u w' :=
  have hz := lt_of_cell h.1
  ⟨keep1 hb hz h.1, keep1 hb hz h.2.1, keep1 hb hz h.2.2.1, keep1 hb hz h.2.2.2⟩
theorem at4_new (w : World) (x y z u : Value) (t : TypeId) : At4 w.heap.size x y z u (w.alloc (.cells #[x, y, z, u] t)) := by unfold At4; simp [go_sem]

theorem at2_new (w : World) (x y : Value) (t : TypeId) : At2 w.heap.size x y (w.alloc (.cells #[x, y] t)) := by unfold At2; simp [go_sem]
end Go.Proofs.YtjoonmpjcophnaaGreatDoor
namespace Go.Proofs.YtjoonmpjcophnaaGreatDoor
open Go.RowKit

set_option maxHeartbeats 1000000 in
set_option maxRecDepth 100000 in
theorem rCount1_any {c : Nat} {a : Option Addr} {len cap k : Nat} {xs : List Int} {k1 : Nat} {y e e1 e3 : Int} {W : World}
    (HU : Hid (∀ W, Cs c a len cap xs k e W → Calls Tryz.prog 43 #[.pointer (some ⟨c, 0, none⟩), .int .i64 32] W fun r W' => r = .returned (.int .u64 y) ∧ Cs c a len cap xs k1 e1 W' ∧ Fr [c] W W'))
    (y0 : 0 ≤ y) (y1 : y < 4294967296) (HT : Hid (e3 = chE (decide (y ≤ 4096)) e1 3)) (h : Cs c a len cap xs k e W) :
    Calls Tryz.prog 42 #[.pointer (some ⟨c, 0, none⟩)] W fun r W' => r = .returned (.int .i64 (pk e3 y 0)) ∧ Cs c a len cap xs (back e3 k1 k) e3 W' ∧ Fr [c] W W' := by
  have HKL := hide h.2.2.2.2.1
  have h1 := h.1.2.1
  have H := hide h
  clear h
  go_enter Tryz.func42, Tryz.ntmps42
  go_wp2_with fail
  refine (unhide HU _ (unhide H)).mono ?_
  rintro _ w1 ⟨rfl, hC, hF⟩
  have H := hide hC
  have HF := hide hF
  clear hC hF h1
  by_cases hy : y ≤ 4096
  · have hy' : ¬ 4096 < y := by omega
    rw [decide_eq_true hy] at HT
    have H : Hid (Cs c a len cap xs k1 e3 w1) := hide (by rw [unhide HT]; exact unhide H)
    have h2 := (unhide H).1.2.2.1
    by_cases he : e3 = 0
    · subst he
      go_wp2_with fail
      go_ret
      exact ⟨rfl, unhide H, unhide HF⟩
    · have d : (e3 != 0) = true := bne_iff_ne.2 he
      have HK := hide (rBack_any (k0 := k) (unhide H) (unhide HKL))
      have HE := hide he
      clear he
      go_wp2_with fail
      refine (unhide HK).mono ?_
      rintro _ w9 ⟨rfl, hC, hF⟩
      have HF := hide ((unhide HF).trans hF)
      have H := hide hC
      clear hC hF
      go_wp2_with fail
      go_ret
      exact ⟨by rw [pk_e (unhide HE)]; rfl, unhide H, unhide HF⟩
  · have hy' : 4096 < y := by omega
    rw [decide_eq_false hy] at HT
    clear hy
    go_wp2_with fail
    refine (rFail_any (unhide H)).mono ?_
    rintro _ w4 ⟨rfl, hC, hF⟩
    have H : Hid (Cs c a len cap xs k1 e3 w4) := hide (by rw [unhide HT]; exact hC)
    have HF := hide ((unhide HF).trans hF)
    have h2 := (unhide H).1.2.2.1
    clear hC hF
    by_cases he : e3 = 0
    · subst he
      go_wp2_with fail
      go_ret
      exact ⟨rfl, unhide H, unhide HF⟩
    · have d : (e3 != 0) = true := bne_iff_ne.2 he
      have HK := hide (rBack_any (k0 := k) (unhide H) (unhide HKL))
      have HE := hide he
      clear he
      go_wp2_with fail
      refine (unhide HK).mono ?_
      rintro _ w9 ⟨rfl, hC, hF⟩
      have HF := hide ((unhide HF).trans hF)
      have H := hide hC
      clear hC hF
      go_wp2_with fail
      go_ret
      exact ⟨by rw [pk_e (unhide HE)]; rfl, unhide H, unhide HF⟩
theorem rCount_any {c : Nat} {a : Option Addr} {len cap k : Nat} {xs : List Int} {e : Int} {W : World} (h : Cs c a len cap xs k e W) :
    Calls Tryz.prog 42 #[.pointer (some ⟨c, 0, none⟩)] W fun r W' => r = .returned (.int .i64 (lift rCount 0 xs k e).1) ∧ Cs c a len cap xs (lift rCount 0 xs k e).2.1 (lift rCount 0 xs k e).2.2 W' ∧ Fr [c] W W' := by
  have hlt := liftU_lt h.2.2.2.1 k e
  have HU := fun W h => rUint_any (c := c) (a := a) (len := len) (cap := cap) (xs := xs) (k := k) (e := e) (b := 32) (W := W) h (by decide) (by decide)
  obtain ⟨⟨y, k1, e1⟩, hU⟩ : ∃ t, lift (rU 32) 0 xs k e = t := ⟨_, rfl⟩
  rw [hU] at hlt HU
  dsimp only at hlt HU
  have hL : lift rCount 0 xs k e = (pk (chE (decide (y ≤ 4096)) e1 3) y 0, back (chE (decide (y ≤ 4096)) e1 3) k1 k, chE (decide (y ≤ 4096)) e1 3) := by
    unfold rCount
    exact seq_tst (p := fun n => decide (n ≤ 4096)) (g := id) hU (by decide)
  rw [hL]
  exact rCount1_any (hide HU) hlt.1 hlt.2 (hide rfl) h
end Go.Proofs.YtjoonmpjcophnaaGreatDoor
