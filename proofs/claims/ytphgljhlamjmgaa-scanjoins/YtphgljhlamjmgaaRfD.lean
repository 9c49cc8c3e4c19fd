/- The document's reader: bytes, a name, how many come. -/
import Derived.Test.YtphgljhlamjmgaaRfB
import Derived.Test.YtphgljhlamjmgaaScK
import Derived.Test.YtphgljhlamjmgaaUtI
namespace Go.Proofs.Ytphgljhlamjmgaa
open Go.RowKit

set_option maxHeartbeats 1000000 in
set_option maxRecDepth 100000 in
theorem rTake_dead {c : Nat} {a : Option Addr} {len cap k : Nat} {xs : List Int} {e : Int} {n : Nat} {W : World} (h : Cs c a len cap xs k e W) (he : e ≠ 0) :
    Calls Try.prog 53 #[.pointer (some ⟨c, 0, none⟩), .int .u64 (n : Int)] W fun r W' => r = .returned (.slice none 0 0) ∧ Cs c a len cap xs k e W' ∧ Fr [c] W W' := by
  have h2 := h.1.2.2.1
  have H := hide h
  clear h
  have d : (e != 0) = true := bne_iff_ne.2 he
  go_enter Try.func53, Try.ntmps53
  go_wp2_with fail
  go_ret
  exact ⟨rfl, unhide H, Fr.refl _ _⟩
set_option maxHeartbeats 1000000 in
set_option maxRecDepth 100000 in
theorem rTake_no {c : Nat} {a : Option Addr} {len cap k : Nat} {xs : List Int} {n : Nat} {W : World} (h : Cs c a len cap xs k 0 W) (hn : ¬ n ≤ len - k) :
    Calls Try.prog 53 #[.pointer (some ⟨c, 0, none⟩), .int .u64 (n : Int)] W fun r W' => r = .returned (.slice none 0 0) ∧ Cs c a len cap xs k 100 W' ∧ Fr [c] W W' := by
  have h0 := h.1.1
  have h1 := h.1.2.1
  have h2 := h.1.2.2.1
  have h4 := h.1.2.2.2 2 (by decide)
  have hk := h.2.2.2.2.1
  have hl := h.2.2.2.2.2
  have H := hide h
  clear h
  have hn' : (len : Int) - k < n := by omega
  go_enter Try.func53, Try.ntmps53
  go_wp2_with fail
  go_quiet (fail)
  go_wp2_with fail
  go_ret
  exact ⟨rfl, ((unhide H).bel (below_drewN (Below.refl _ _) _)).err 100, ((Fr.refl _ _).drewN _).place _ _⟩
set_option maxHeartbeats 1000000 in
set_option maxRecDepth 100000 in
theorem rTake_in {c : Nat} {b off len cap k n : Nat} {xs : List Int} {W : World} (h : Cs c (some ⟨b, off, none⟩) len cap xs k 0 W) (hn : n ≤ len - k) (hcn : ¬ cap = k) :
    Calls Try.prog 53 #[.pointer (some ⟨c, 0, none⟩), .int .u64 (n : Int)] W fun r W' => r = .returned (.slice (some ⟨b, off + k, none⟩) n (cap - k)) ∧ Cs c (some ⟨b, off, none⟩) len cap xs (k + n) 0 W' ∧ Fr [c] W W' := by
  have h0 := h.1.1
  have h1 := h.1.2.1
  have h2 := h.1.2.2.1
  have h3 := h.1.2.2.2 1 (by decide)
  have hk := h.2.2.2.2.1
  have hc := h.2.1.2.1
  have hl := h.2.2.2.2.2
  have H := hide h
  clear h
  have hn' : ¬ (len : Int) - k < n := by omega
  go_enter Try.func53, Try.ntmps53
  go_wp2_with fail
  go_quiet (fail)
  go_wp2_with fail
  have H := hide (((unhide H).bel (below_drewN (Below.refl _ _) nq)).at' (k + n) (by omega) ((k : Int) + n) (by omega))
  have HF := hide (((Fr.refl [c] W).drewN nq).place 1 (.int .i64 ((k : Int) + n)))
  obtain ⟨h0, h1, h2, hz⟩ := (unhide H).1
  clear hz h2 h3
  generalize World.setCell (W.drewN nq) _ _ = w2 at *
  go_quiet (fail)
  go_wp2_with fail
  go_ret
  exact ⟨by rw [show k + n - k = n by omega]; rfl, (unhide H).bel (below_drewN (Below.refl _ _) _), (unhide HF).drewN _⟩
set_option maxHeartbeats 1000000 in
set_option maxRecDepth 100000 in
theorem rTake_end {c : Nat} {b off len cap k : Nat} {xs : List Int} {W : World} (h : Cs c (some ⟨b, off, none⟩) len cap xs k 0 W) (hcn : cap = k) :
    Calls Try.prog 53 #[.pointer (some ⟨c, 0, none⟩), .int .u64 0] W fun r W' => r = .returned (.slice (some ⟨b, off, none⟩) 0 0) ∧ Cs c (some ⟨b, off, none⟩) len cap xs k 0 W' ∧ Fr [c] W W' := by
  have h0 := h.1.1
  have h1 := h.1.2.1
  have h2 := h.1.2.2.1
  have h3 := h.1.2.2.2 1 (by decide)
  have hk := h.2.2.2.2.1
  have hc := h.2.1.2.1
  have hl := h.2.2.2.2.2
  have H := hide h
  clear h
  obtain rfl : len = k := by omega
  have hn' : ¬ (len : Int) - len < 0 := by omega
  go_enter Try.func53, Try.ntmps53
  go_wp2_with fail
  go_quiet (fail)
  go_wp2_with fail
  have H := hide (((unhide H).bel (below_drewN (Below.refl _ _) nq)).at' len (by omega) (len : Int) rfl)
  have HF := hide (((Fr.refl [c] W).drewN nq).place 1 (.int .i64 (len : Int)))
  obtain ⟨h0, h1, h2, hz⟩ := (unhide H).1
  clear hz h2 h3
  generalize World.setCell (W.drewN nq) _ _ = w2 at *
  go_quiet (fail)
  go_wp2_with fail
  go_ret
  exact ⟨rfl, (unhide H).bel (below_drewN (Below.refl _ _) _), (unhide HF).drewN _⟩
set_option maxHeartbeats 1000000 in
set_option maxRecDepth 100000 in
theorem rTake_nil {c : Nat}  {xs : List Int} {W : World} (h : Cs c none 0 0 xs 0 0 W)  :
    Calls Try.prog 53 #[.pointer (some ⟨c, 0, none⟩), .int .u64 0] W fun r W' => r = .returned (.slice none 0 0) ∧ Cs c none 0 0 xs 0 0 W' ∧ Fr [c] W W' := by
  have h0 := h.1.1
  have h1 := h.1.2.1
  have h2 := h.1.2.2.1
  have h3 := h.1.2.2.2 1 (by decide)
  have hk := h.2.2.2.2.1
  have hc := h.2.1.2.1
  have hl := h.2.2.2.2.2
  have H := hide h
  clear h
  have hn' : ¬ ((0 : Nat) : Int) - ((0 : Nat) : Int) < 0 := by omega
  go_enter Try.func53, Try.ntmps53
  go_wp2_with fail
  go_quiet (fail)
  go_wp2_with fail
  have H := hide (((unhide H).bel (below_drewN (Below.refl _ _) nq)).at' 0 (by omega) 0 rfl)
  have HF := hide (((Fr.refl [c] W).drewN nq).place 1 (.int .i64 0))
  obtain ⟨h0, h1, h2, hz⟩ := (unhide H).1
  clear hz h2 h3
  generalize World.setCell (W.drewN nq) _ _ = w2 at *
  go_quiet (fail)
  go_wp2_with fail
  go_ret
  exact ⟨rfl, (unhide H).bel (below_drewN (Below.refl _ _) _), (unhide HF).drewN _⟩
theorem rTake_ok {c : Nat} {a : Option Addr} {len cap k : Nat} {xs : List Int} {n : Nat} {W : World} (h : Cs c a len cap xs k 0 W) (hn : n ≤ len - k) :
    Calls Try.prog 53 #[.pointer (some ⟨c, 0, none⟩), .int .u64 (n : Int)] W fun r W' => ∃ x1 x2 x3, r = .returned (.slice x1 x2 x3) ∧ Sl W' x1 x2 x3 ((xs.drop k).take n) ∧ (∀ p, x1 = some p → 0 < x2 → p.block ≠ c) ∧ Cs c a len cap xs (k + n) 0 W' ∧ Fr [c] W W' := by
  have hs := h.2.1
  have hk := h.2.2.2.2.1
  rcases hs.2.2.2 with ⟨rfl, rfl, rfl⟩ | ⟨b, off, rfl, h6⟩
  · obtain rfl : k = 0 := by omega
    obtain rfl : n = 0 := by omega
    refine (rTake_nil h).mono ?_
    rintro _ w ⟨rfl, hC, hF⟩
    exact ⟨_, _, _, rfl, ⟨by simp, Nat.le_refl _, by omega, Or.inl ⟨rfl, rfl, rfl⟩⟩, by simp, hC, hF⟩
  · by_cases hc : cap = k
    · have := hs.2.1
      obtain rfl : n = 0 := by omega
      refine (rTake_end h hc).mono ?_
      rintro _ w ⟨rfl, hC, hF⟩
      exact ⟨_, _, _, rfl, ⟨by simp, Nat.le_refl _, by omega, Or.inr ⟨b, off, rfl, fun j hj => by omega⟩⟩, fun p _ hp => by omega, hC, hF⟩
    · have := hs.2.1
      refine (rTake_in h hn hc).mono ?_
      rintro _ w ⟨rfl, hC, hF⟩
      refine ⟨_, _, _, rfl, hC.2.1.part (by omega) _ (by omega), ?_, hC, hF⟩
      intro p hp h0
      injection hp with hp
      subst hp
      exact h.2.2.1 ⟨b, off, none⟩ rfl (by omega)
theorem rTake_any {c : Nat} {a : Option Addr} {len cap k : Nat} {xs : List Int} {e : Int} {n : Nat} {W : World} (h : Cs c a len cap xs k e W) :
    Calls Try.prog 53 #[.pointer (some ⟨c, 0, none⟩), .int .u64 (n : Int)] W fun r W' => ∃ x1 x2 x3, r = .returned (.slice x1 x2 x3) ∧ Sl W' x1 x2 x3 (lift (rP n) [] xs k e).1 ∧ (∀ p, x1 = some p → 0 < x2 → p.block ≠ c) ∧ Cs c a len cap xs (lift (rP n) [] xs k e).2.1 (lift (rP n) [] xs k e).2.2 W' ∧ Fr [c] W W' := by
  by_cases he : e = 0
  · subst he
    have hx := h.2.1.1
    have hl : (xs.drop k).length = len - k := by rw [List.length_drop, hx]
    rw [lift_0]
    by_cases hn : n ≤ len - k
    · rw [rP_ok (by rw [hl]; exact hn)]
      exact rTake_ok h hn
    · rw [rP_no (by rw [hl]; exact hn)]
      refine (rTake_no h hn).mono ?_
      rintro _ w ⟨rfl, hC, hF⟩
      exact ⟨none, 0, 0, rfl, (nw_nil 0 w).1, by simp, hC, hF⟩
  · rw [lift_e _ _ _ _ he]
    refine (rTake_dead h he).mono ?_
    rintro _ w ⟨rfl, hC, hF⟩
    exact ⟨none, 0, 0, rfl, (nw_nil 0 w).1, by simp, hC, hF⟩
theorem rcN_t (o : Option Nat) : decide (rcN o < 0) = !o.isSome := by
  cases o with
  | none => rfl
  | some n => exact decide_eq_false (by show ¬ ((n : Int) < 0); omega)
set_option maxHeartbeats 1000000 in
set_option maxRecDepth 100000 in
theorem rName1_any {c : Nat} {a : Option Addr} {len cap k : Nat} {xs : List Int} {n k1 k2 : Nat} {e e1 e2 e3 : Int} {b : List Int} {W : World}
    (HU : Hid (∀ W, Cs c a len cap xs k e W → Calls Try.prog 37 #[.pointer (some ⟨c, 0, none⟩), .int .i64 32] W fun r W' => r = .returned (.int .u64 (n : Int)) ∧ Cs c a len cap xs k1 e1 W' ∧ Fr [c] W W'))
    (HP : Hid (∀ W, Cs c a len cap xs k1 e1 W → Calls Try.prog 53 #[.pointer (some ⟨c, 0, none⟩), .int .u64 (n : Int)] W fun r W' => ∃ x1 x2 x3, r = .returned (.slice x1 x2 x3) ∧ Sl W' x1 x2 x3 b ∧ (∀ p, x1 = some p → 0 < x2 → p.block ≠ c) ∧ Cs c a len cap xs k2 e2 W' ∧ Fr [c] W W'))
    (HY : Hid (Byt b)) (HT : Hid (e3 = chE (cnt b).isSome e2 102)) (h : Cs c a len cap xs k e W) :
    Calls Try.prog 55 #[.pointer (some ⟨c, 0, none⟩)] W fun r W' => r = .returned (.string (strOfNums (pk e3 b []))) ∧ Cs c a len cap xs (back e3 k2 k) e3 W' ∧ Fr [c] W W' := by
  have HKL := hide h.2.2.2.2.1
  have h1 := h.1.2.1
  have H := hide h
  clear h
  go_enter Try.func55, Try.ntmps55
  go_wp2_with fail
  refine (unhide HU _ (unhide H)).mono ?_
  rintro _ w1 ⟨rfl, hC, hF⟩
  have H := hide hC
  have HF := hide hF
  clear hC hF h1
  go_wp2_with fail
  refine (unhide HP _ (unhide H)).mono ?_
  rintro _ w2 ⟨x1, x2, x3, rfl, hS, hp, hC, hF⟩
  have HS := hide hS
  have HPP := hide hp
  have H := hide hC
  have HF := hide ((unhide HF).trans hF)
  clear hC hF hS hp
  have HV := hide (rcount_any HY HS)
  have ht := rcN_t (cnt b)
  obtain ⟨t, hte⟩ : ∃ t, (cnt b).isSome = t := ⟨_, rfl⟩
  rw [hte] at ht HT
  clear hte
  generalize rcN (cnt b) = q at *
  cases t
  · have hq : q < 0 := by simpa using ht
    clear ht
    go_wp2_with fail
    refine (unhide HV).mono ?_
    rintro _ w3 ⟨rfl, hb⟩
    have H := hide ((unhide H).bel hb)
    have HF := hide ((unhide HF).bel hb)
    have HS := hide ((unhide HS).below hb)
    clear hb
    go_wp2_with fail
    refine (rFail_any (unhide H)).mono ?_
    rintro _ w4 ⟨rfl, hC, hF⟩
    have HS := hide ((unhide HS).fr hF (fun p hp h0 => by simpa using unhide HPP p hp h0))
    have hcv := conv_run (unhide HS)
    have H : Hid (Cs c a len cap xs k2 e3 w4) := hide (by rw [unhide HT]; exact hC)
    have HF := hide ((unhide HF).trans hF)
    have h2 := (unhide H).1.2.2.1
    clear hC hF
    by_cases he : e3 = 0
    · subst he
      go_wp2_with fail
      go_ret
      exact ⟨rfl, unhide H, unhide HF⟩
    · have d : (e3 != 0) = true := bne_iff_ne.2 he
      have HK := hide (rBack_any (k0 := k) (unhide H) (unhide HKL))
      have HE := hide he
      clear he
      go_wp2_with fail
      refine (unhide HK).mono ?_
      rintro _ w9 ⟨rfl, hC, hF⟩
      have HF := hide ((unhide HF).trans hF)
      have H := hide hC
      clear hC hF
      go_wp2_with fail
      go_ret
      exact ⟨by rw [pk_e (unhide HE)]; rfl, unhide H, unhide HF⟩
  · have hq : ¬ q < 0 := by simpa using ht
    clear ht
    go_wp2_with fail
    refine (unhide HV).mono ?_
    rintro _ w4 ⟨rfl, hb⟩
    have HS := hide ((unhide HS).below hb)
    have hcv := conv_run (unhide HS)
    have H : Hid (Cs c a len cap xs k2 e3 w4) := hide (by rw [unhide HT]; exact (unhide H).bel hb)
    have HF := hide ((unhide HF).bel hb)
    have h2 := (unhide H).1.2.2.1
    clear hb
    by_cases he : e3 = 0
    · subst he
      go_wp2_with fail
      go_ret
      exact ⟨rfl, unhide H, unhide HF⟩
    · have d : (e3 != 0) = true := bne_iff_ne.2 he
      have HK := hide (rBack_any (k0 := k) (unhide H) (unhide HKL))
      have HE := hide he
      clear he
      go_wp2_with fail
      refine (unhide HK).mono ?_
      rintro _ w9 ⟨rfl, hC, hF⟩
      have HF := hide ((unhide HF).trans hF)
      have H := hide hC
      clear hC hF
      go_wp2_with fail
      go_ret
      exact ⟨by rw [pk_e (unhide HE)]; rfl, unhide H, unhide HF⟩
theorem rName_any {c : Nat} {a : Option Addr} {len cap k : Nat} {xs : List Int} {e : Int} {W : World} (h : Cs c a len cap xs k e W) :
    Calls Try.prog 55 #[.pointer (some ⟨c, 0, none⟩)] W fun r W' => r = .returned (.string (strOfNums (lift rName [] xs k e).1)) ∧ Cs c a len cap xs (lift rName [] xs k e).2.1 (lift rName [] xs k e).2.2 W' ∧ Fr [c] W W' := by
  have hlt := liftU_lt h.2.2.2.1 k e
  have hx := h.2.2.2.1
  have HU := fun W h => rUint_any (c := c) (a := a) (len := len) (cap := cap) (xs := xs) (k := k) (e := e) (b := 32) (W := W) h (by decide) (by decide)
  obtain ⟨⟨y, k1, e1⟩, hU⟩ : ∃ t, lift (rU 32) 0 xs k e = t := ⟨_, rfl⟩
  rw [hU] at hlt HU
  dsimp only at hlt HU
  obtain ⟨n, rfl⟩ := Int.eq_ofNat_of_zero_le hlt.1
  have hy := lift_byt hx n k1 e1
  have HP := fun W h => rTake_any (c := c) (a := a) (len := len) (cap := cap) (xs := xs) (k := k1) (e := e1) (n := n) (W := W) h
  obtain ⟨⟨b, k2, e2⟩, hP⟩ : ∃ t, lift (rP n) [] xs k1 e1 = t := ⟨_, rfl⟩
  rw [hP] at HP hy
  dsimp only at HP hy
  have hL : lift rName [] xs k e = (pk (chE (cnt b).isSome e2 102) b [], back (chE (cnt b).isSome e2 102) k2 k, chE (cnt b).isSome e2 102) := by
    unfold rName
    refine seq_back hU ?_
    rw [Int.toNat_natCast]
    exact seq_tst (g := id) hP (by decide)
  rw [hL]
  exact rName1_any (hide HU) (hide HP) (hide hy) (hide rfl) h
set_option maxHeartbeats 1000000 in
set_option maxRecDepth 100000 in
theorem rCount1_any {c : Nat} {a : Option Addr} {len cap k : Nat} {xs : List Int} {k1 : Nat} {y e e1 e3 : Int} {W : World}
    (HU : Hid (∀ W, Cs c a len cap xs k e W → Calls Try.prog 37 #[.pointer (some ⟨c, 0, none⟩), .int .i64 32] W fun r W' => r = .returned (.int .u64 y) ∧ Cs c a len cap xs k1 e1 W' ∧ Fr [c] W W'))
    (y0 : 0 ≤ y) (y1 : y < 4294967296) (HT : Hid (e3 = chE (decide (y ≤ 4096)) e1 3)) (h : Cs c a len cap xs k e W) :
    Calls Try.prog 57 #[.pointer (some ⟨c, 0, none⟩)] W fun r W' => r = .returned (.int .i64 (pk e3 y 0)) ∧ Cs c a len cap xs (back e3 k1 k) e3 W' ∧ Fr [c] W W' := by
  have HKL := hide h.2.2.2.2.1
  have h1 := h.1.2.1
  have H := hide h
  clear h
  go_enter Try.func57, Try.ntmps57
  go_wp2_with fail
  refine (unhide HU _ (unhide H)).mono ?_
  rintro _ w1 ⟨rfl, hC, hF⟩
  have H := hide hC
  have HF := hide hF
  clear hC hF h1
  by_cases hy : y ≤ 4096
  · have hy' : ¬ 4096 < y := by omega
    rw [decide_eq_true hy] at HT
    have H : Hid (Cs c a len cap xs k1 e3 w1) := hide (by rw [unhide HT]; exact unhide H)
    have h2 := (unhide H).1.2.2.1
    by_cases he : e3 = 0
    · subst he
      go_wp2_with fail
      go_ret
      exact ⟨rfl, unhide H, unhide HF⟩
    · have d : (e3 != 0) = true := bne_iff_ne.2 he
      have HK := hide (rBack_any (k0 := k) (unhide H) (unhide HKL))
      have HE := hide he
      clear he
      go_wp2_with fail
      refine (unhide HK).mono ?_
      rintro _ w9 ⟨rfl, hC, hF⟩
      have HF := hide ((unhide HF).trans hF)
      have H := hide hC
      clear hC hF
      go_wp2_with fail
      go_ret
      exact ⟨by rw [pk_e (unhide HE)]; rfl, unhide H, unhide HF⟩
  · have hy' : 4096 < y := by omega
    rw [decide_eq_false hy] at HT
    clear hy
    go_wp2_with fail
    refine (rFail_any (unhide H)).mono ?_
    rintro _ w4 ⟨rfl, hC, hF⟩
    have H : Hid (Cs c a len cap xs k1 e3 w4) := hide (by rw [unhide HT]; exact hC)
    have HF := hide ((unhide HF).trans hF)
    have h2 := (unhide H).1.2.2.1
    clear hC hF
    by_cases he : e3 = 0
    · subst he
      go_wp2_with fail
      go_ret
      exact ⟨rfl, unhide H, unhide HF⟩
    · have d : (e3 != 0) = true := bne_iff_ne.2 he
      have HK := hide (rBack_any (k0 := k) (unhide H) (unhide HKL))
      have HE := hide he
      clear he
      go_wp2_with fail
      refine (unhide HK).mono ?_
      rintro _ w9 ⟨rfl, hC, hF⟩
      have HF := hide ((unhide HF).trans hF)
      have H := hide hC
      clear hC hF
      go_wp2_with fail
      go_ret
      exact ⟨by rw [pk_e (unhide HE)]; rfl, unhide H, unhide HF⟩
theorem rCount_any {c : Nat} {a : Option Addr} {len cap k : Nat} {xs : List Int} {e : Int} {W : World} (h : Cs c a len cap xs k e W) :
    Calls Try.prog 57 #[.pointer (some ⟨c, 0, none⟩)] W fun r W' => r = .returned (.int .i64 (lift rCount 0 xs k e).1) ∧ Cs c a len cap xs (lift rCount 0 xs k e).2.1 (lift rCount 0 xs k e).2.2 W' ∧ Fr [c] W W' := by
  have hlt := liftU_lt h.2.2.2.1 k e
  have HU := fun W h => rUint_any (c := c) (a := a) (len := len) (cap := cap) (xs := xs) (k := k) (e := e) (b := 32) (W := W) h (by decide) (by decide)
  obtain ⟨⟨y, k1, e1⟩, hU⟩ : ∃ t, lift (rU 32) 0 xs k e = t := ⟨_, rfl⟩
  rw [hU] at hlt HU
  dsimp only at hlt HU
  have hL : lift rCount 0 xs k e = (pk (chE (decide (y ≤ 4096)) e1 3) y 0, back (chE (decide (y ≤ 4096)) e1 3) k1 k, chE (decide (y ≤ 4096)) e1 3) := by
    unfold rCount
    exact seq_tst (p := fun n => decide (n ≤ 4096)) (g := id) hU (by decide)
  rw [hL]
  exact rCount1_any (hide HU) hlt.1 hlt.2 (hide rfl) h
end Go.Proofs.Ytphgljhlamjmgaa
