/- The document's reader: types, functions. -/
import Derived.Test.YtphgljhlamjmgaaRfD
import Derived.Test.YtphgljhlamjmgaaRfG
namespace Go.Proofs.Ytphgljhlamjmgaa
open Go.RowKit

theorem Fr.grow {l : List Nat} {a b c : World} (h : Fr l a b) (k : Below a.heap.size b c) : Fr l a c :=
  ⟨k.os.trans h.os, k.tape.trans h.tape, k.output.trans h.output, Nat.le_trans h.size k.size, fun i hi hn => (k.block i hi).trans (h.block i hi hn)⟩
theorem Cs.old {c : Nat} {a : Option Addr} {len cap k : Nat} {xs : List Int} {k0 : Nat} {e e0 : Int} {w w' W0 : World} (h : Cs c a len cap xs k e w) (h0 : Cs c a len cap xs k0 e0 W0) (hb : Below W0.heap.size w w') : Cs c a len cap xs k e w' := by
  have hc := h0.1.lt
  refine ⟨⟨(hb.cell (p := ⟨c, 0, none⟩) hc).trans h.1.1, (hb.cell (p := ⟨c, 1, none⟩) hc).trans h.1.2.1, (hb.cell (p := ⟨c, 2, none⟩) hc).trans h.1.2.2.1, fun o ho => (hb.frozen (p := ⟨c, o, none⟩) hc).trans (h.1.2.2.2 o ho)⟩, ?_, h.2.2⟩
  obtain ⟨h1, h2, h3, h4⟩ := h.2.1
  refine ⟨h1, h2, h3, ?_⟩
  rcases h4 with h4 | ⟨b, off, h5, h6⟩
  · exact Or.inl h4
  · exact Or.inr ⟨b, off, h5, fun j hj => (hb.cell (p := ⟨b, off + j, none⟩) (h0.2.1.lt ⟨b, off, none⟩ h5 (by omega))).trans (h6 j hj)⟩
theorem Ow.fr {w w' : World} {B : Nat} {v : Value} {xs : List Int} {l : List Nat} (h : Ow w B v xs) (hf : Fr l w w') (hl : ∀ i ∈ l, i < B) : Ow w' B v xs := by
  refine ⟨h.1, ?_⟩
  rcases h.2 with hn | ⟨g, cap, cur, rfl, hg, hgg, rest⟩
  · exact .inl hn
  · exact .inr ⟨g, cap, cur, rfl, hg, by rw [hf.block g (Array.getElem?_eq_some_iff.1 hgg).1 (fun hm => by have := hl g hm; omega)]; exact hgg, rest⟩
theorem many_end (xs : List Int) (k : Nat) (e : Int) (i n : Nat) (hi : i ≤ n) (h : (many xs k e i).2.2 ≠ 0) : (many xs k e n).2.2 = (many xs k e i).2.2 := by
  have := many_dead xs k e i h (n - i)
  rw [show i + (n - i) = n by omega] at this
  exact this
set_option maxHeartbeats 1000000 in
set_option maxRecDepth 100000 in
theorem rTypes1_any {c : Nat} {a : Option Addr} {len cap k : Nat} {xs : List Int} {n k1 : Nat} {e e1 : Int} {W : World}
    (HU : Hid (∀ W, Cs c a len cap xs k e W → Calls Try.prog 57 #[.pointer (some ⟨c, 0, none⟩)] W fun r W' => r = .returned (.int .i64 (n : Int)) ∧ Cs c a len cap xs k1 e1 W' ∧ Fr [c] W W')) (hn : n ≤ 4096) (h : Cs c a len cap xs k e W) :
    Calls Try.prog 44 #[.pointer (some ⟨c, 0, none⟩)] W fun r W' => ∃ x1 x2 x3 ys k', r = .returned (.slice x1 x2 x3) ∧ Nw W.heap.size x1 x2 x3 ys W' ∧ ((many xs k1 e1 n).2.2 = 0 → ys = (many xs k1 e1 n).1 ∧ k' = (many xs k1 e1 n).2.1) ∧ Cs c a len cap xs k' (many xs k1 e1 n).2.2 W' ∧ Fr [c] W W' := by
  have hcl := h.1.lt
  have H0 := hide h
  have HV : Hid (∀ k e W, Cs c a len cap xs k e W → Calls Try.prog 42 #[.pointer (some ⟨c, 0, none⟩)] W fun r W' => r = .returned (.int .u8 (lift rValue 0 xs k e).1) ∧ Cs c a len cap xs (lift rValue 0 xs k e).2.1 (lift rValue 0 xs k e).2.2 W' ∧ Fr [c] W W') := hide fun k e W h => rValue_any h
  clear h
  go_enter Try.func44, Try.ntmps44
  go_wp2_with fail
  refine (unhide HU _ (unhide H0)).mono ?_
  rintro _ w1 ⟨rfl, hC, hF⟩
  have H := hide hC
  have HF := hide hF
  clear hC hF
  go_wp2_with fail
  go_loopw [3, 5] (fun v3 v5 wr => ∃ i : Nat, i ≤ n ∧ v5 = .int .i64 (i : Int) ∧ Ow wr W.heap.size v3 (many xs k1 e1 i).1 ∧ Cs c a len cap xs (many xs k1 e1 i).2.1 (many xs k1 e1 i).2.2 wr ∧ Fr [c] W wr) (fun _ v5 _ => n - (intOf v5).toNat)
  case atStart => exact ⟨0, by omega, rfl, ow_nil _ _, unhide H, unhide HF⟩
  case round =>
    obtain ⟨i, hi, rfl, hO, hC, hF⟩ := hrel
    have hL := many_len1 xs k1 e1 i
    obtain ⟨oa, oc, rfl, -⟩ := hO.slice (by omega)
    have HO := hide hO
    have HC := hide hC
    have HF := hide hF
    have h2 := hC.1.2.2.1
    have HD := hide (many_end xs k1 e1 i n hi)
    have HL := hide hL
    clear hO hC hF hL
    by_cases hlt : i < n
    · have hi' : (i : Int) < (n : Int) := by omega
      have HS : Hid (many xs k1 e1 (i + 1) = ((many xs k1 e1 i).1 ++ [(lift rValue 0 xs (many xs k1 e1 i).2.1 (many xs k1 e1 i).2.2).1], (lift rValue 0 xs (many xs k1 e1 i).2.1 (many xs k1 e1 i).2.2).2.1, (lift rValue 0 xs (many xs k1 e1 i).2.1 (many xs k1 e1 i).2.2).2.2)) := hide rfl
      generalize hM : many xs k1 e1 i = M at *
      obtain ⟨ys, k2, e2⟩ := M
      dsimp only at *
      by_cases he : e2 = 0
      · subst he
        have HC2 := hide (unhide HV _ _ _ (unhide HC))
        generalize lift rValue 0 xs k2 0 = T at *
        obtain ⟨y, k3, e3⟩ := T
        dsimp only at *
        clear hM
        go_wp2_with fail
        refine (unhide HC2).mono ?_
        rintro _ w3 ⟨rfl, hC, hF⟩
        have hO := (unhide HO).fr hF (by simp; omega)
        have hFr := (unhide HF).trans hF
        obtain ⟨a', cap', w', q1, q2, q3, q4⟩ := app_run (hO.alloc (.cells (bys [y]).toArray 5)) (by have := hFr.size; simp; omega) (sl_lit w3 [y] 1 rfl (by omega)) (by rw [unhide HL]; omega)
        have HA : Hid ((Builtin.append_ #[22, 22] 22 #[.slice oa ys.length oc, .slice (some ⟨w3.heap.size, 0, none⟩) 1 1]).run Try.prog (w3.alloc (.cells #[.int .u8 y] 5)) = .ok (.slice a' (ys.length + 1) cap') w') := hide q1
        have HO := hide q2
        have HC := hide ((hC.alloc (.cells (bys [y]).toArray 5)).old (unhide H0) q4)
        have HF := hide ((hFr.alloc (.cells (bys [y]).toArray 5)).grow q4)
        clear hO hFr hC hF q1 q2 q3 q4
        go_wp2_with (at_builtin; refine wpList_app (by rfl) rfl rfl (unhide HA) ?_)
        exact ⟨⟨i + 1, by omega, by go_num, by rw [unhide HS]; exact unhide HO, by rw [unhide HS]; exact unhide HC, unhide HF⟩, by simp [intOf]; omega⟩
      · have d : (e2 == 0) = false := beq_eq_false_iff_ne.2 he
        have HE := hide he
        clear he
        go_wp2_with fail
        go_ret
        have hD := unhide HD (unhide HE)
        obtain ⟨a9, c9, q1, q2⟩ := (unhide HO).nw (by rw [unhide HL]; omega)
        exact ⟨a9, _, c9, ys, k2, by rw [← q1]; rfl, q2, fun h0 => absurd (hD.symm.trans h0) (unhide HE), by rw [hD]; exact unhide HC, unhide HF⟩
    · have hi' : ¬ (i : Int) < (n : Int) := by omega
      obtain hin : i = n := by omega
      have HI := hide hin
      clear hin
      go_wp2_with fail
      go_ret
      rw [← unhide HI]
      obtain ⟨a9, c9, q1, q2⟩ := (unhide HO).nw (by rw [unhide HL]; omega)
      exact ⟨a9, _, c9, by rw [← q1]; rfl, _, q2, _, fun _ => ⟨rfl, rfl⟩, unhide HC, unhide HF⟩
theorem lift_types {xs : List Int} {k n k1 : Nat} {e e1 : Int} (hU : lift rCount 0 xs k e = ((n : Int), k1, e1)) : lift rTypes [] xs k e = (pk (many xs k1 e1 n).2.2 (many xs k1 e1 n).1 [], back (many xs k1 e1 n).2.2 (many xs k1 e1 n).2.1 k, (many xs k1 e1 n).2.2) := by
  unfold rTypes
  refine seq_back hU ?_
  rw [Int.toNat_natCast]
  by_cases h1 : e1 = 0
  · subst h1
    exact lift_many xs k1 n
  · have hd : (many xs k1 e1 n).2.2 = e1 := by
      have := many_dead xs k1 e1 0 h1 n
      rw [Nat.zero_add] at this
      exact this
    rw [lift_e _ _ _ _ h1, hd, pk_e h1, back_e h1]
theorem rTypes_any {c : Nat} {a : Option Addr} {len cap k : Nat} {xs : List Int} {e : Int} {W : World} (h : Cs c a len cap xs k e W) :
    Calls Try.prog 44 #[.pointer (some ⟨c, 0, none⟩)] W fun r W' => ∃ x1 x2 x3 ys' k', r = .returned (.slice x1 x2 x3) ∧ Nw W.heap.size x1 x2 x3 ys' W' ∧ ((lift rTypes [] xs k e).2.2 = 0 → ys' = (lift rTypes [] xs k e).1 ∧ k' = (lift rTypes [] xs k e).2.1) ∧ Cs c a len cap xs k' (lift rTypes [] xs k e).2.2 W' ∧ Fr [c] W W' := by
  have hle := count_le h.2.2.2.1 k e
  have HU := fun W h => rCount_any (c := c) (a := a) (len := len) (cap := cap) (xs := xs) (k := k) (e := e) (W := W) h
  obtain ⟨⟨y, k1, e1⟩, hU⟩ : ∃ t, lift rCount 0 xs k e = t := ⟨_, rfl⟩
  rw [hU] at hle HU
  dsimp only at hle HU
  obtain ⟨n, rfl⟩ := Int.eq_ofNat_of_zero_le hle.1
  rw [lift_types hU]
  refine (rTypes1_any (hide HU) (by omega) h).mono ?_
  rintro _ w ⟨x1, x2, x3, ys, k', rfl, hN, hE, hC, hF⟩
  refine ⟨x1, x2, x3, ys, k', rfl, hN, fun h0 => ?_, hC, hF⟩
  dsimp only at h0 ⊢
  rw [h0, pk_0, back_0]
  exact hE h0
set_option maxHeartbeats 1000000 in
set_option maxRecDepth 100000 in
theorem rFunc1_any {c : Nat} {a : Option Addr} {len cap k : Nat} {xs : List Int} {k1 k2 k3 : Nat} {e e1 e2 e3 b : Int} {ys zs : List Int} {W : World}
    (HU : Hid (∀ W, Cs c a len cap xs k e W → Calls Try.prog 36 #[.pointer (some ⟨c, 0, none⟩), .slice (some ⟨W.heap.size, 0, none⟩) 1 1, .int .i64 107] (W.alloc (.cells #[.int .u8 96] 5)) fun r W' => r = .returned (.int .u8 b) ∧ Cs c a len cap xs k1 e1 W' ∧ Fr [c] W W'))
    (HV : Hid (∀ W, Cs c a len cap xs k1 e1 W → Calls Try.prog 44 #[.pointer (some ⟨c, 0, none⟩)] W fun r W' => ∃ x1 x2 x3 ys' k', r = .returned (.slice x1 x2 x3) ∧ Nw W.heap.size x1 x2 x3 ys' W' ∧ (e2 = 0 → ys' = ys ∧ k' = k2) ∧ Cs c a len cap xs k' e2 W' ∧ Fr [c] W W'))
    (HX : Hid (∀ k0 W, (e2 = 0 → k0 = k2) → Cs c a len cap xs k0 e2 W → Calls Try.prog 44 #[.pointer (some ⟨c, 0, none⟩)] W fun r W' => ∃ x1 x2 x3 ys' k', r = .returned (.slice x1 x2 x3) ∧ Nw W.heap.size x1 x2 x3 ys' W' ∧ (e3 = 0 → ys' = zs ∧ k' = k3) ∧ Cs c a len cap xs k' e3 W' ∧ Fr [c] W W')) (HE : Hid (e3 = 0 → e2 = 0)) (h : Cs c a len cap xs k e W) :
    Calls Try.prog 23 #[.pointer (some ⟨c, 0, none⟩)] W fun r W' => ∃ x1 x2 x3 y1 y2 y3, r = .returned (.tuple #[.slice x1 x2 x3, .slice y1 y2 y3]) ∧ Nw W.heap.size x1 x2 x3 (pk e3 ys []) W' ∧ Nw W.heap.size y1 y2 y3 (pk e3 zs []) W' ∧ Cs c a len cap xs (back e3 k3 k) e3 W' ∧ Fr [c] W W' := by
  have HKL := hide h.2.2.2.2.1
  have hcl := h.1.lt
  have h1 := h.1.2.1
  have HU := hide (unhide HU _ h)
  clear h
  go_enter Try.func23, Try.ntmps23
  go_wp2_with fail
  refine (unhide HU).mono ?_
  rintro _ w1 ⟨rfl, hC, hF⟩
  have HV := hide (unhide HV _ hC)
  have hz1 := hF.size
  have HF := hide hF
  clear hC hF h1
  go_wp2_with fail
  refine (unhide HV).mono ?_
  rintro _ w2 ⟨x1, x2, x3, ys1, k4, rfl, hN, hE, hC, hF⟩
  have HX := hide (unhide HX _ _ (fun h0 => (hE h0).2) hC)
  have hz2 := Nat.le_trans hz1 hF.size
  have HN1 := hide (hN.mono hz1)
  have HE1 := hide hE
  have HF := hide ((unhide HF).trans hF)
  clear hC hF hN hE
  go_wp2_with fail
  refine (unhide HX).mono ?_
  rintro _ w3 ⟨y1, y2, y3, zs1, k5, rfl, hN, hE, hC, hF⟩
  have HN1 := hide ((unhide HN1).fr hF (by simp; omega))
  have HN2 := hide (hN.mono hz2)
  have HE2 := hide hE
  have HF := hide ((unhide HF).trans hF)
  have H := hide hC
  have h2 := hC.1.2.2.1
  clear hC hF hN hE
  by_cases he : e3 = 0
  · subst he
    obtain ⟨q1, q2⟩ := unhide HE1 (unhide HE rfl)
    obtain ⟨q3, q4⟩ := unhide HE2 rfl
    subst q1 q3 q4
    clear q2
    go_wp2_with fail
    go_ret2
    exact ⟨_, _, _, _, _, _, rfl, unhide HN1, unhide HN2, unhide H, unhide HF⟩
  · have d : (e3 != 0) = true := bne_iff_ne.2 he
    have HK := hide (rBack_any (k0 := k) (unhide H) (unhide HKL))
    rw [back_e he] at HK
    have HE := hide he
    clear he
    go_wp2_with fail
    refine (unhide HK).mono ?_
    rintro _ w9 ⟨rfl, hC, hF⟩
    have HF := hide ((unhide HF).trans hF)
    have H := hide hC
    clear hC hF
    go_wp2_with fail
    go_ret2
    rw [pk_e (unhide HE), pk_e (unhide HE), back_e (unhide HE)]
    exact ⟨_, _, _, _, _, _, rfl, nw_nil _ _, nw_nil _ _, unhide H, unhide HF⟩
theorem rFunc_any {c : Nat} {a : Option Addr} {len cap k : Nat} {xs : List Int} {e : Int} {W : World} (h : Cs c a len cap xs k e W) :
    Calls Try.prog 23 #[.pointer (some ⟨c, 0, none⟩)] W fun r W' => ∃ x1 x2 x3 y1 y2 y3, r = .returned (.tuple #[.slice x1 x2 x3, .slice y1 y2 y3]) ∧ Nw W.heap.size x1 x2 x3 (lift rFunc ([], []) xs k e).1.1 W' ∧ Nw W.heap.size y1 y2 y3 (lift rFunc ([], []) xs k e).1.2 W' ∧ Cs c a len cap xs (lift rFunc ([], []) xs k e).2.1 (lift rFunc ([], []) xs k e).2.2 W' ∧ Fr [c] W W' := by
  have HU : ∀ W, Cs c a len cap xs k e W → Calls Try.prog 36 #[.pointer (some ⟨c, 0, none⟩), .slice (some ⟨W.heap.size, 0, none⟩) 1 1, .int .i64 107] (W.alloc (.cells #[.int .u8 96] 5)) fun r W' => r = .returned (.int .u8 (lift (rOne [96] 107) 0 xs k e).1) ∧ Cs c a len cap xs (lift (rOne [96] 107) 0 xs k e).2.1 (lift (rOne [96] 107) 0 xs k e).2.2 W' ∧ Fr [c] W W' := fun W h => rOne_lit [96] 1 rfl (by omega) h (by decide)
  obtain ⟨⟨b, k1, e1⟩, hU⟩ : ∃ t, lift (rOne [96] 107) 0 xs k e = t := ⟨_, rfl⟩
  rw [hU] at HU
  have HV := fun W h => rTypes_any (c := c) (a := a) (len := len) (cap := cap) (xs := xs) (k := k1) (e := e1) (W := W) h
  obtain ⟨⟨ys, k2, e2⟩, hV⟩ : ∃ t, lift rTypes [] xs k1 e1 = t := ⟨_, rfl⟩
  rw [hV] at HV
  have HX := fun k2 W h => rTypes_any (c := c) (a := a) (len := len) (cap := cap) (xs := xs) (k := k2) (e := e2) (W := W) h
  obtain ⟨⟨zs, k3, e3⟩, hX⟩ : ∃ t, lift rTypes [] xs k2 e2 = t := ⟨_, rfl⟩
  dsimp only at HU HV
  have hL : lift rFunc ([], []) xs k e = (pk e3 (ys, zs) ([], []), back e3 k3 k, e3) := by
    unfold rFunc
    refine seq_back hU (seq_back hV ?_)
    refine (seq hX (lift_giv _ ([], []) _ _ _)).trans ?_
    rw [pk_pk]
  have hE : e2 ≠ 0 → e3 = e2 := fun h2 => by
    rw [lift_e _ _ _ _ h2] at hX
    injection hX with _ h4
    injection h4 with _ h5
    exact h5.symm
  rw [hL]
  dsimp only
  rw [(pk_1 e3 (ys, zs) ([], [])).1, (pk_1 e3 (ys, zs) ([], [])).2]
  refine rFunc1_any (hide HU) (hide HV) (hide fun k0 W hk hC => ?_) (hide fun h3 => ?_) h
  · by_cases h2 : e2 = 0
    · rw [hk h2] at hC
      have := HX _ _ hC
      rw [hX] at this
      exact this
    · have := HX _ _ hC
      rw [lift_e _ _ _ _ h2] at this
      rw [hE h2]
      refine this.mono ?_
      rintro _ w ⟨x1, x2, x3, ys', k', rfl, hN, hQ, hC, hF⟩
      exact ⟨x1, x2, x3, ys', k', rfl, hN, fun h0 => absurd h0 h2, hC, hF⟩
  · by_cases h2 : e2 = 0
    · exact h2
    · rw [hE h2] at h3
      exact absurd h3 h2
end Go.Proofs.Ytphgljhlamjmgaa
