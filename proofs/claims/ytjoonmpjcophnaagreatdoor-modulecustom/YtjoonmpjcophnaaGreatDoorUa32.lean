/- ScL. -/
import Derived.Test.YtjoonmpjcophnaaGreatDoorUa29
import Derived.Test.YtjoonmpjcophnaaGreatDoorUa30
import Derived.Laws.MakeOwn
namespace Go.Proofs.YtjoonmpjcophnaaGreatDoor
open Go.RowKit

theorem made_cellsB (L i : Nat) (h : i < L) : (madeCells #[.int .u8 0] L)[i]? = some (.int .u8 0) := by
  have := toList_madeCells_one (.int .u8 0) L
  rw [← Array.getElem?_toList, this]
  simp [h]
theorem bytes5 : ((Tryz.prog.info? 5).getD default).bytes = 1 := by kernel_rfl
theorem size5 : ((Tryz.prog.info? 5).getD default).size = 1 := by kernel_rfl
set_option maxRecDepth 100000 in
theorem make_runB (L : Nat) (hL : L ≤ 4096) (w : World) : (Instr.makeSlice 22 (.int .i64 (L : Int)) (.int .i64 (L : Int))).run Tryz.prog w = .ok (.slice (some ⟨w.heap.size, 0, none⟩) L L) (w.alloc (.cells (madeCells #[.int .u8 0] L) 5)) := by
  have h := run_make (P := Tryz.prog) w 22 5 _ (.int .u8 0) Tryz.underlying22 iU8 rfl .i64 .i64 (L : Int) (L : Int) (by omega) (Int.le_refl _) (by rw [bytes5]; omega) (by omega)
  rw [size5, Nat.mul_one] at h
  exact h
/-- A row of n that can be written, whose first ones are these. -/
def Wr (g n : Nat) (ys : List Int) (w : World) : Prop := Room g n w ∧ ∀ j, j < ys.length → w.cell? ⟨g, j, none⟩ = some (.int .u8 (ys.getD j 0))
theorem Wr.made (w : World) (n : Nat) : Wr w.heap.size n [] (w.alloc (.cells (madeCells #[.int .u8 0] n) 5)) := by
  refine ⟨fun o ho => ⟨⟨_, by rw [World.cell?_alloc_new, made_cellsB n o ho]⟩, by simp [go_sem]⟩, fun j hj => by simp at hj⟩
theorem Wr.fr {g n : Nat} {ys : List Int} {w w' : World} {l : List Nat} (h : Wr g n ys w) (hf : Fr l w w') (hn : g ∉ l) : Wr g n ys w' := ⟨h.1.fr hf hn, fun j hj => hf.keep (h.2 j hj) hn⟩
theorem Wr.store {g n : Nat} {ys : List Int} {w : World} (h : Wr g n ys w) (hl : ys.length < n) (x : Int) : Wr g n (ys ++ [x]) (w.setCell ⟨g, ys.length, none⟩ (.int .u8 x)) := by
  refine ⟨h.1.set _ _, fun j hj => ?_⟩
  by_cases hj' : j = ys.length
  · subst hj'
    obtain ⟨⟨v, h1⟩, -⟩ := h.1 ys.length hl
    rw [cell_set_same h1]
    simp
  · have hj2 : j < ys.length := by simp at hj; omega
    rw [cell_set_off hj' (h.2 j hj2)]
    rw [List.getD_eq_getElem?_getD, List.getD_eq_getElem?_getD, List.getElem?_append_left hj2]
theorem many_len1 (xs : List Int) (k : Nat) (e : Int) (n : Nat) : (many xs k e n).1.length = n := by
  induction n with
  | zero => rfl
  | succ n ih => show ((many xs k e n).1 ++ [_]).length = n + 1; rw [List.length_append, ih]; rfl
set_option maxHeartbeats 1000000 in
set_option maxRecDepth 100000 in
theorem values1_any {c : Nat} {a : Option Addr} {len cap k : Nat} {xs : List Int} {q : Nat} {e : Int} {W : World} (h : Cs c a len cap xs k e W) (hB : Bx q (.pointer (some ⟨c, 0, none⟩)) W) :
    Calls Tryz.prog 157 #[.pointer (some ⟨q, 0, none⟩)] W fun r W' => r = .returned (.int .u8 (lift rValue 0 xs k e).1) ∧ Cs c a len cap xs (lift rValue 0 xs k e).2.1 (lift rValue 0 xs k e).2.2 W' ∧ Fr [c] W W' := by
  have HN : Hid (Calls Tryz.prog 39 #[.pointer (some ⟨c, 0, none⟩)] W fun r W' => r = .returned (.int .u8 (lift rValue 0 xs k e).1) ∧ Cs c a len cap xs (lift rValue 0 xs k e).2.1 (lift rValue 0 xs k e).2.2 W' ∧ Fr [c] W W') := hide (value_any h)
  clear h
  unfold Bx at hB
  generalize lift rValue 0 xs k e = L at *
  obtain ⟨y, k1, e1⟩ := L
  dsimp only at *
  go_enter Tryz.func157, Tryz.ntmps157
  go_wp2_with fail
  refine (unhide HN).mono ?_
  rintro _ w1 ⟨rfl, hC, hF⟩
  have HC := hide hC
  have HF := hide hF
  clear hC hF hB
  go_wp2_with fail
  go_ret
  exact ⟨rfl, unhide HC, unhide HF⟩
set_option maxHeartbeats 1000000 in
set_option maxRecDepth 100000 in
theorem list1_any {c : Nat} {a : Option Addr} {len cap k : Nat} {xs : List Int} {p1 p2 q n k1 : Nat} {e1 : Int} {W : World}
    (HU : Hid (∀ W, Cs c a len cap xs k 0 W → Calls Tryz.prog 65 #[.pointer (some ⟨c, 0, none⟩)] W fun r W' => r = .returned (.int .i64 (n : Int)) ∧ Cs c a len cap xs k1 e1 W' ∧ Fr [c] W W'))
    (hn : n ≤ 4096) (n1 : p1 ≠ c) (n2 : p2 ≠ c) (n3 : q ≠ c) (h : Cs c a len cap xs k 0 W) (hB : Bx p1 (.pointer (some ⟨c, 0, none⟩)) W ∧ Bx p2 (.func (.func 157) #[] #[.pointer (some ⟨q, 0, none⟩)]) W) (hQ : Bx q (.pointer (some ⟨c, 0, none⟩)) W) :
    Calls Tryz.prog 165 #[.pointer (some ⟨p1, 0, none⟩), .pointer (some ⟨p2, 0, none⟩)] W fun r W' => ∃ v, r = .returned v ∧ (∃ x1 x2 x3, v = .slice x1 x2 x3 ∧ Nw W.heap.size x1 x2 x3 (many xs k1 e1 n).1 W') ∧ Cs c a len cap xs (many xs k1 e1 n).2.1 (many xs k1 e1 n).2.2 W' ∧ Fr [c] W W' := by
  have hcl := h.1.lt
  have hp1 : p1 < W.heap.size := World.block_lt_of_cell? W _ hB.1
  have hp2 : p2 < W.heap.size := World.block_lt_of_cell? W _ hB.2
  have hp3 : q < W.heap.size := World.block_lt_of_cell? W _ hQ
  have hmk := make_runB n hn
  have HQ := hide hQ
  have HB := hide hB
  have H0 := hide h
  have HN1 := hide n1
  have HN2 := hide n2
  have HN3 := hide n3
  have HV := hide (fun k e W h hB => values1_any (c := c) (a := a) (len := len) (cap := cap) (xs := xs) (k := k) (q := q) (e := e) (W := W) h hB)
  have hb1 := hB.1
  unfold Bx at hb1
  clear h hB hQ n1 n2 n3
  go_enter Tryz.func165, Tryz.ntmps165
  go_wp2_with fail
  refine (unhide HU _ (unhide H0)).mono ?_
  rintro _ w1 ⟨rfl, hC, hF⟩
  have HB := hide (And.intro ((unhide HB).1.fr hF (by simpa using unhide HN1)) ((unhide HB).2.fr hF (by simpa using unhide HN2)))
  have HQ := hide ((unhide HQ).fr hF (by simpa using unhide HN3))
  have H := hide hC
  have HF := hide hF
  have hsz := hF.size
  clear hC hF hb1
  go_wp2_with fail
  clear hmk
  have HM := hide (Wr.made w1 n)
  have HA := hide (Fr.of (below1 w1 (.cells (madeCells #[.int .u8 0] n) 5)) [c])
  have HZ : Hid ((w1.alloc (.cells (madeCells #[.int .u8 0] n) 5)).heap.size = w1.heap.size + 1) := hide (by simp)
  have HM0 := hide ((unhide H).alloc (.cells (madeCells #[.int .u8 0] n) 5))
  have HB := hide (And.intro ((unhide HB).1.bel (below1 w1 (.cells (madeCells #[.int .u8 0] n) 5))) ((unhide HB).2.bel (below1 w1 (.cells (madeCells #[.int .u8 0] n) 5))))
  have HQ := hide ((unhide HQ).bel (below1 w1 (.cells (madeCells #[.int .u8 0] n) 5)))
  have HF := hide ((unhide HF).trans (unhide HA))
  generalize hw2 : w1.alloc (.cells (madeCells #[.int .u8 0] n) 5) = w2 at *
  clear hw2
  go_loopw [10] (fun v10 wr => ∃ i : Nat, i ≤ n ∧ v10 = .int .i64 (i : Int) ∧ Wr w1.heap.size n (many xs k1 e1 i).1 wr ∧ Cs c a len cap xs (many xs k1 e1 i).2.1 (many xs k1 e1 i).2.2 wr ∧ Bx p1 (.pointer (some ⟨c, 0, none⟩)) wr ∧ Bx p2 (.func (.func 157) #[] #[.pointer (some ⟨q, 0, none⟩)]) wr ∧ Bx q (.pointer (some ⟨c, 0, none⟩)) wr ∧ Fr [c] W wr) (fun v10 _ => n - (intOf v10).toNat)
  case atStart => exact ⟨0, by omega, rfl, unhide HM, unhide HM0, (unhide HB).1, (unhide HB).2, unhide HQ, unhide HF⟩
  case round =>
    obtain ⟨i, hi, rfl, hW, hC, hb1, hb2, hq, hF⟩ := hrel
    have HW := hide hW
    have HC := hide hC
    have HB1 := hide hb1
    have HQ := hide hq
    have HF := hide hF
    have hL := many_len1 xs k1 e1 i
    have HB2 := hide hb2
    unfold Bx at hb2
    clear hW hC hb1 hq hF
    by_cases hlt : i < n
    · have hi' : (i : Int) < (n : Int) := by omega
      have HS : Hid (many xs k1 e1 (i + 1) = ((many xs k1 e1 i).1 ++ [(lift rValue 0 xs (many xs k1 e1 i).2.1 (many xs k1 e1 i).2.2).1], (lift rValue 0 xs (many xs k1 e1 i).2.1 (many xs k1 e1 i).2.2).2.1, (lift rValue 0 xs (many xs k1 e1 i).2.1 (many xs k1 e1 i).2.2).2.2)) := hide rfl
      have HC2 := hide (unhide HV _ _ _ (unhide HC) (unhide HQ))
      generalize many xs k1 e1 i = M at *
      generalize lift rValue 0 xs M.2.1 M.2.2 = T at *
      have HL := hide hL
      clear hL
      go_wp2_with fail
      refine (unhide HC2).mono ?_
      rintro _ w3 ⟨rfl, hC, hF⟩
      have HW := hide ((unhide HW).fr hF (by simp; omega))
      have HB1 := hide ((unhide HB1).fr hF (by simpa using unhide HN1))
      have HB2 := hide ((unhide HB2).fr hF (by simpa using unhide HN2))
      have HQ := hide ((unhide HQ).fr hF (by simpa using unhide HN3))
      have HF := hide ((unhide HF).trans hF)
      have HC := hide hC
      clear hC hF hb2
      obtain ⟨⟨u, hu⟩, hz⟩ := (unhide HW).1 i hlt
      go_wp2_with fail
      have HW := hide ((unhide HW).store (by rw [unhide HL]; exact hlt) T.1)
      rw [unhide HL] at HW
      have hG : Fr [w1.heap.size] w3 (w3.setCell ⟨w1.heap.size, i, none⟩ (.int .u8 T.1)) := (Fr.refl _ _).set _ (Or.inl (by simp)) _
      refine ⟨⟨i + 1, by omega, by go_num, by rw [unhide HS]; exact unhide HW, by rw [unhide HS]; exact (unhide HC).new (unhide H0) hG (by simp; exact hsz), (unhide HB1).fr hG (by simp; omega), (unhide HB2).fr hG (by simp; omega), (unhide HQ).fr hG (by simp; omega), (unhide HF).set _ (Or.inr hsz) _⟩, by simp [intOf]; omega⟩
    · obtain rfl : i = n := by omega
      go_wp2_with fail
      go_ret
      exact ⟨_, rfl, ⟨_, _, _, rfl, ⟨hL, Nat.le_refl _, by omega, Or.inr ⟨_, 0, rfl, fun j hj => by rw [Nat.zero_add]; exact (unhide HW).2 j (by omega)⟩⟩, fun p hp _ => by injection hp with hp; subst hp; exact hsz⟩, unhide HC, unhide HF⟩
/-- The list that a call answers, in new memory. -/
def Ls (n : Nat) (ys : List Int) (v : Value) (w : World) : Prop := ∃ x1 x2 x3, v = .slice x1 x2 x3 ∧ Nw n x1 x2 x3 ys w
theorem list_in {c : Nat} {a : Option Addr} {len cap k : Nat} {xs : List Int} {q : Nat} {e : Int} {W : World} (h : Cs c a len cap xs k e W) (n3 : q ≠ c) (hQ : Bx q (.pointer (some ⟨c, 0, none⟩)) W) :
    Calls Tryz.prog 156 #[.pointer (some ⟨c, 0, none⟩), .func (.func 157) #[] #[.pointer (some ⟨q, 0, none⟩)]] W fun r W' => ∃ v, r = .returned v ∧ Ls W.heap.size (lift rTypes [] xs k e).1 v W' ∧ Cs c a len cap xs (lift rTypes [] xs k e).2.1 (lift rTypes [] xs k e).2.2 W' ∧ Fr [c] W W' := by
  by_cases he : e = 0
  · subst he
    have hle := count_le h.2.2.2.1 k 0
    have HU := fun W h => count_any' (c := c) (a := a) (len := len) (cap := cap) (xs := xs) (k := k) (e := 0) (W := W) h
    obtain ⟨⟨y, k1, e1⟩, hU⟩ : ∃ t, lift rCount 0 xs k 0 = t := ⟨_, rfl⟩
    rw [hU] at hle HU
    dsimp only at hle HU
    obtain ⟨n, rfl⟩ := Int.eq_ofNat_of_zero_le hle.1
    have hL : lift rTypes [] xs k 0 = (pk (many xs k1 e1 n).2.2 (many xs k1 e1 n).1 [], back (many xs k1 e1 n).2.2 (many xs k1 e1 n).2.1 k, (many xs k1 e1 n).2.2) := by
      unfold rTypes
      refine seq_back hU ?_
      rw [Int.toNat_natCast]
      by_cases h1 : e1 = 0
      · subst h1
        exact lift_many xs k1 n
      · have hd : (many xs k1 e1 n).2.2 = e1 := by
          have := many_dead xs k1 e1 0 h1 n
          rw [Nat.zero_add] at this
          exact this
        rw [lift_e _ _ _ _ h1, hd, pk_e h1, back_e h1]
    rw [hL]
    refine (list_live (V := fun m v w => Ls m (many xs k1 e1 n).1 v w) (J := Bx q (.pointer (some ⟨c, 0, none⟩))) (fun w w' h hb => h.bel hb) (hide fun W q0 q1 hJ n0 n1 hC hB => list1_any (hide HU) (by omega) n0 n1 n3 hC hB hJ) hQ h).mono ?_
    rintro _ w ⟨v, rfl, hV, hC, hF⟩
    refine ⟨v, rfl, ?_, hC, hF⟩
    by_cases h1 : (many xs k1 e1 n).2.2 = 0
    · rw [h1, pk_0]
      obtain ⟨x1, x2, x3, hv, hw⟩ := hV.1 h1
      exact ⟨x1, x2, x3, hv, hw.mono (by omega)⟩
    · rw [pk_e h1, hV.2 h1]
      exact ⟨none, 0, 0, rfl, nw_nil _ _⟩
  · rw [lift_e _ _ _ _ he]
    refine (list_dead h he).mono ?_
    rintro _ w ⟨rfl, hC, hF⟩
    exact ⟨_, rfl, ⟨none, 0, 0, rfl, nw_nil _ _⟩, hC, hF⟩
set_option maxHeartbeats 1000000 in
set_option maxRecDepth 100000 in
theorem values_any {c : Nat} {a : Option Addr} {len cap k : Nat} {xs : List Int} {e : Int} {W : World} (h : Cs c a len cap xs k e W) :
    Calls Tryz.prog 140 #[.pointer (some ⟨c, 0, none⟩)] W fun r W' => ∃ x1 x2 x3, r = .returned (.slice x1 x2 x3) ∧ Nw W.heap.size x1 x2 x3 (lift rTypes [] xs k e).1 W' ∧ Cs c a len cap xs (lift rTypes [] xs k e).2.1 (lift rTypes [] xs k e).2.2 W' ∧ Fr [c] W W' := by
  have hcl := h.1.lt
  have HN := hide (list_in (q := W.heap.size) (h.alloc (.cells #[.pointer (some ⟨c, 0, none⟩)] 53)) (by omega) (by simp [Bx, go_sem]))
  clear h
  generalize lift rTypes [] xs k e = L at *
  obtain ⟨y, k1, e1⟩ := L
  dsimp only at *
  go_enter Tryz.func140, Tryz.ntmps140
  go_wp2_with fail
  refine (unhide HN).mono ?_
  rintro _ w1 ⟨v, rfl, ⟨x1, x2, x3, rfl, hV⟩, hC, hF⟩
  have HV := hide (hV.mono (m := W.heap.size) (by simp))
  have HC := hide hC
  have HF := hide ((Fr.of (below1 W (.cells #[.pointer (some ⟨c, 0, none⟩)] 53)) [c]).trans hF)
  clear hC hF hV
  go_wp2_with fail
  go_ret
  exact ⟨_, _, _, rfl, unhide HV, unhide HC, unhide HF⟩
end Go.Proofs.YtjoonmpjcophnaaGreatDoor
