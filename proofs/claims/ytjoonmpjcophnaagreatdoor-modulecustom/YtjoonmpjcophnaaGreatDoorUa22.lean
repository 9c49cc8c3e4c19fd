/- ScC. -/
import Derived.Test.YtjoonmpjcophnaaGreatDoorUa19
import Derived.Test.YtjoonmpjcophnaaGreatDoorUa21
namespace Go.Proofs.YtjoonmpjcophnaaGreatDoor
open Go.RowKit

theorem getD_dropS (xs : List Int) (k j : Nat) : (xs.drop k).getD j 0 = xs.getD (k + j) 0 := by
  simp [List.getD]
theorem getD_takeS (xs : List Int) (m j : Nat) (h : j < m) : (xs.take m).getD j 0 = xs.getD j 0 := by
  simp [List.getD, h]
/-- A part of a slice. -/
theorem Sl.part {w : World} {b off len cap k n : Nat} {xs : List Int} (h : Sl w (some ⟨b, off, none⟩) len cap xs) (hk : k + n ≤ len) (cap' : Nat) (hc : n ≤ cap') : Sl w (some ⟨b, off + k, none⟩) n cap' ((xs.drop k).take n) := by
  obtain ⟨h1, h2, h3, h4⟩ := h
  refine ⟨by rw [List.length_take, List.length_drop]; omega, hc, by omega, ?_⟩
  rcases h4 with ⟨h4, _⟩ | ⟨b', off', h5, h6⟩
  · cases h4
  · injection h5 with h5
    injection h5 with h5 h7
    subst h5; subst h7
    exact Or.inr ⟨b, off + k, rfl, fun j hj => by rw [getD_takeS _ _ _ hj, getD_dropS, Nat.add_assoc]; exact h6 (k + j) (by omega)⟩
/-- The next bytes. -/
theorem next_ok {c : Nat} {a : Option Addr} {len cap k : Nat} {xs : List Int} {n : Nat} {e : Int} {W : World} (h : Cs c a len cap xs k e W) (hn : n ≤ len - k) :
    Calls Tryz.prog 134 #[.pointer (some ⟨c, 0, none⟩), .int .u32 (n : Int)] W fun r W' => ∃ x1 x3, r = .returned (.tuple #[.slice x1 n x3, .bool true]) ∧ Sl W' x1 n x3 ((xs.drop k).take n) ∧ (∀ p, x1 = some p → 0 < n → p.block ≠ c) ∧ Cs c a len cap xs (k + n) e W' ∧ Fr [c] W W' := by
  have hs := h.2.1
  have hk := h.2.2.2.2.1
  rcases hs.2.2.2 with ⟨rfl, rfl, rfl⟩ | ⟨b, off, rfl, h6⟩
  · obtain rfl : k = 0 := by omega
    obtain rfl : n = 0 := by omega
    refine (next_nil h).mono ?_
    rintro _ w ⟨rfl, hC, hF⟩
    exact ⟨_, _, rfl, ⟨by simp, Nat.le_refl _, by omega, Or.inl ⟨rfl, rfl, rfl⟩⟩, by simp, hC, hF⟩
  · by_cases hc : cap = k
    · have := hs.2.1
      obtain rfl : n = 0 := by omega
      refine (next_end h hc).mono ?_
      rintro _ w ⟨rfl, hC, hF⟩
      exact ⟨_, _, rfl, ⟨by simp, Nat.le_refl _, by omega, Or.inr ⟨b, off, rfl, fun j hj => by omega⟩⟩, fun p _ hp => by omega, hC, hF⟩
    · have := hs.2.1
      refine (next_in h hn hc).mono ?_
      rintro _ w ⟨rfl, hC, hF⟩
      refine ⟨_, _, rfl, hC.2.1.part (by omega) _ (by omega), ?_, hC, hF⟩
      intro p hp h0
      injection hp with hp
      subst hp
      exact h.2.2.1 ⟨b, off, none⟩ rfl (by omega)
/-- A variable of one cell. -/
def Bx (p : Nat) (v : Value) (w : World) : Prop := w.cell? ⟨p, 0, none⟩ = some v
theorem Bx.fr {p : Nat} {v : Value} {w w' : World} {l : List Nat} (h : Bx p v w) (hf : Fr l w w') (hn : p ∉ l) : Bx p v w' := hf.keep h hn
theorem Bx.bel {p : Nat} {v : Value} {w w' : World} (h : Bx p v w) (hf : Below w.heap.size w w') : Bx p v w' := h.fr (Fr.of hf []) (by simp)
/-- Bytes that are answered, in whatever memory but the cursor's. -/
def Pc (c : Nat) (ys : List Int) (v : Value) (w : World) : Prop := ∃ x1 x2 x3, v = .slice x1 x2 x3 ∧ Sl w x1 x2 x3 ys ∧ ∀ p, x1 = some p → 0 < x2 → p.block ≠ c
theorem pc_nil (c : Nat) (w : World) : Pc c [] (.slice none 0 0) w := ⟨none, 0, 0, rfl, ⟨rfl, Nat.le_refl _, by omega, Or.inl ⟨rfl, rfl, rfl⟩⟩, by simp⟩
theorem rP_ok {n : Nat} {l : List Int} (h : n ≤ l.length) : rP n l = (l.take n, n, 0) := if_pos h
theorem rP_no {n : Nat} {l : List Int} (h : ¬ n ≤ l.length) : rP n l = ([], 0, 100) := if_neg h
set_option maxHeartbeats 1000000 in
set_option maxRecDepth 100000 in
theorem piece1_ok {c : Nat} {a : Option Addr} {len cap k : Nat} {xs : List Int} {n p1 p2 : Nat} {W : World} (h : Cs c a len cap xs k 0 W) (hn : n ≤ len - k) (n1 : p1 ≠ c) (n2 : p2 ≠ c) (hB : Bx p1 (.pointer (some ⟨c, 0, none⟩)) W ∧ Bx p2 (.int .u32 (n : Int)) W) :
    Calls Tryz.prog 133 #[.pointer (some ⟨p1, 0, none⟩), .pointer (some ⟨p2, 0, none⟩)] W fun r W' => ∃ v, r = .returned v ∧ Pc c (rP n (xs.drop k)).1 v W' ∧ Cs c a len cap xs (k + (rP n (xs.drop k)).2.1) (rP n (xs.drop k)).2.2 W' ∧ Fr [c] W W' := by
  have hL : (xs.drop k).length = len - k := by rw [List.length_drop, h.2.1.1]
  have HE : Hid (rP n (xs.drop k) = ((xs.drop k).take n, n, 0)) := hide (rP_ok (by omega))
  rw [unhide HE]
  have H := hide h.drew
  have HF := hide ((Fr.refl [c] W).drew)
  have HB := hide (show Bx p1 (.pointer (some ⟨c, 0, none⟩)) W.drew ∧ Bx p2 (.int .u32 (n : Int)) W.drew from hB)
  have HN := hide n1
  have HN2 := hide n2
  clear h hB HE hL n1 n2
  go_enter Tryz.func133, Tryz.ntmps133
  go_wp2_with fail
  refine wp_region_held_drew (S := fun w' => w'.cell? ⟨p1, 0, none⟩ = some (.pointer (some ⟨c, 0, none⟩)) ∧ w'.cell? ⟨p2, 0, none⟩ = some (.int .u32 (n : Int))) (by kernel_rfl) ?_ (fun hHeld => ?_)
  · (try dsimp only)
    exact unhide HB
  refine lst0 10 (by kernel_rfl) ?_
  refine tkA 0 6 1 ?_
  refine tkA 1 7 3 ?_
  refine tkA 2 8 7 ?_
  refine tkA 3 9 15 ?_
  refine rdA 4 31 (fun Kk hKk => ?_)
  go_simp
  refine (next_ok (unhide H) hn).mono ?_
  rintro _ w1 ⟨x1, x3, rfl, hS, hP, hC, hF⟩
  have HB := hide (And.intro ((unhide HB).1.fr hF (by simpa using unhide HN)) ((unhide HB).2.fr hF (by simpa using unhide HN2)))
  have HF := hide ((unhide HF).trans hF)
  have H := hide hC
  clear hF hC
  (try go_wp2_with fail)
  refine hKk.out _ _ ?_ (fun hHeld => ?_)
  · (try dsimp only)
    exact unhide HB
  clear hKk Kk
  (try simp only [List.setIfInBounds_toArray, List.set_cons_zero, List.set_cons_succ])
  refine tkA 5 5 63 ?_
  refine tkA 6 11 127 ?_
  refine tkA 7 12 255 ?_
  refine tkA 8 3 511 ?_
  refine tkA 9 4 1023 ?_
  refine wpAnyH_done (by kernel_rfl) ?_ _
  go_wp2_with fail
  go_ret
  exact ⟨_, rfl, ⟨_, _, _, rfl, hS, hP⟩, unhide H, unhide HF⟩
set_option maxHeartbeats 1000000 in
set_option maxRecDepth 100000 in
theorem piece1_no {c : Nat} {a : Option Addr} {len cap k : Nat} {xs : List Int} {n p1 p2 : Nat} {W : World} (h : Cs c a len cap xs k 0 W) (hn : ¬ n ≤ len - k) (hb : n < 4294967296) (n1 : p1 ≠ c) (n2 : p2 ≠ c) (hB : Bx p1 (.pointer (some ⟨c, 0, none⟩)) W ∧ Bx p2 (.int .u32 (n : Int)) W) :
    Calls Tryz.prog 133 #[.pointer (some ⟨p1, 0, none⟩), .pointer (some ⟨p2, 0, none⟩)] W fun r W' => ∃ v, r = .returned v ∧ Pc c (rP n (xs.drop k)).1 v W' ∧ Cs c a len cap xs (k + (rP n (xs.drop k)).2.1) (rP n (xs.drop k)).2.2 W' ∧ Fr [c] W W' := by
  have hL : (xs.drop k).length = len - k := by rw [List.length_drop, h.2.1.1]
  have HE : Hid (rP n (xs.drop k) = ([], 0, 100)) := hide (rP_no (by omega))
  rw [unhide HE]
  have H := hide h.drew
  have HF := hide ((Fr.refl [c] W).drew)
  have HB := hide (show Bx p1 (.pointer (some ⟨c, 0, none⟩)) W.drew ∧ Bx p2 (.int .u32 (n : Int)) W.drew from hB)
  have HN := hide n1
  have HN2 := hide n2
  clear h hB HE hL n1 n2
  go_enter Tryz.func133, Tryz.ntmps133
  go_wp2_with fail
  refine wp_region_held_drew (S := fun w' => w'.cell? ⟨p1, 0, none⟩ = some (.pointer (some ⟨c, 0, none⟩)) ∧ w'.cell? ⟨p2, 0, none⟩ = some (.int .u32 (n : Int))) (by kernel_rfl) ?_ (fun hHeld => ?_)
  · (try dsimp only)
    exact unhide HB
  refine lst0 10 (by kernel_rfl) ?_
  refine tkA 0 6 1 ?_
  refine tkA 1 7 3 ?_
  refine tkA 2 8 7 ?_
  refine tkA 3 9 15 ?_
  refine rdA 4 31 (fun Kk hKk => ?_)
  go_simp
  refine (next_no (unhide H) hn hb).mono ?_
  rintro _ w1 ⟨rfl, hC, hF⟩
  have HB := hide (And.intro ((unhide HB).1.fr hF (by simpa using unhide HN)) ((unhide HB).2.fr hF (by simpa using unhide HN2)))
  have HF := hide ((unhide HF).trans hF)
  have H := hide hC
  clear hF hC
  (try go_wp2_with fail)
  refine hKk.out _ _ ?_ (fun hHeld => ?_)
  · (try dsimp only)
    exact unhide HB
  clear hKk Kk
  (try simp only [List.setIfInBounds_toArray, List.set_cons_zero, List.set_cons_succ])
  refine tkA 5 5 63 ?_
  refine tkA 6 11 127 ?_
  refine tkA 7 12 255 ?_
  refine tkA 8 3 511 ?_
  refine tkA 9 4 1023 ?_
  refine wpAnyH_done (by kernel_rfl) ?_ _
  have hb1 := (unhide HB).1
  unfold Bx at hb1
  go_wp2_with fail
  refine (fail_any (unhide H)).mono ?_
  rintro _ w2 ⟨rfl, hC, hF⟩
  have H := hide hC
  have HF := hide ((unhide HF).trans hF)
  clear hC hF hb1
  go_wp2_with fail
  go_ret
  exact ⟨_, rfl, pc_nil _ _, unhide H, unhide HF⟩
end Go.Proofs.YtjoonmpjcophnaaGreatDoor
