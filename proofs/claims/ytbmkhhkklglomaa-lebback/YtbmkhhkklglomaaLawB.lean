/- The law LebBack of any input. -/
import Derived.Test.YtbmkhhkklglomaaLawK
import Derived.Test.YtbmkhhkklglomaaLawN
import Derived.Test.YtbmkhhkklglomaaLawP
namespace Go.Proofs.Ytbmkhhkklglomaa
open Go.RowKit

set_option maxHeartbeats 1000000 in
set_option maxRecDepth 100000 in
theorem back_big {n : Int} {a : Option Addr} {len cap : Nat} {bits : Int} (W : World) (h : (100 : Int) < (len : Int) ∨ bits < 1 ∨ 64 < bits) :
    Calls Try.prog 5 #[.int .u64 n, .slice a len cap, .int .i64 bits] W fun r W' => r = .returned (.bool true) ∧ Below W.heap.size W W' := by
  have HA := awake_any
  by_cases h1 : (100 : Int) < (len : Int)
  · clear h
    go_enter Try.func5, Try.ntmps5
    go_wp2_with fail
    refine (unhide HA _).mono ?_
    rintro _ w1 ⟨rfl, hb⟩
    go_wp2_with fail
    go_ret
    exact ⟨rfl, hb⟩
  · by_cases h2 : bits < 1
    · clear h
      go_enter Try.func5, Try.ntmps5
      go_wp2_with fail
      refine (unhide HA _).mono ?_
      rintro _ w1 ⟨rfl, hb⟩
      go_wp2_with fail
      go_ret
      exact ⟨rfl, hb⟩
    · have h3 : 64 < bits := by omega
      clear h
      go_enter Try.func5, Try.ntmps5
      go_wp2_with fail
      refine (unhide HA _).mono ?_
      rintro _ w1 ⟨rfl, hb⟩
      go_wp2_with fail
      go_ret
      exact ⟨rfl, hb⟩
theorem out_n (n : Nat) (L i : Nat) (hn : n < 18446744073709551616) (h : L = i + 1) : outT 0 ((n : Int), L, 0) = .tuple #[.int .u64 (n : Int), .int .i64 ((i : Int) + 1), .int .i64 0] := by
  unfold outT
  rw [if_pos rfl, h]
  show Value.tuple #[.int .u64 ((n : Int) % 18446744073709551616), .int .i64 ((0 + (i + 1) : Nat) : Int), .int .i64 0] = _
  rw [Int.emod_eq_of_lt (by omega) (by omega), show ((0 + (i + 1) : Nat) : Int) = (i : Int) + 1 by omega]
theorem out_s (n : Nat) (s : Int) (L i : Nat) (hs : s % 18446744073709551616 = n) (h : L = i + 1) : outT 0 (s, L, 0) = .tuple #[.int .u64 (n : Int), .int .i64 ((i : Int) + 1), .int .i64 0] := by
  unfold outT
  rw [if_pos rfl, h]
  show Value.tuple #[.int .u64 (s % 18446744073709551616), .int .i64 ((0 + (i + 1) : Nat) : Int), .int .i64 0] = _
  rw [hs, show ((0 + (i + 1) : Nat) : Int) = (i : Int) + 1 by omega]
theorem sl_cut {w : World} {g L c i : Nat} {xs : List Int} (h : Sl w (some ⟨g, 0, none⟩) L c xs) (hi : i ≤ L) : Sl w (some ⟨g, 0, none⟩) i c (xs.take i) := by
  obtain ⟨h1, h2, h3, h4⟩ := h
  refine ⟨by simp; omega, by omega, by omega, ?_⟩
  rcases h4 with ⟨h4, _⟩ | ⟨b, off, h5, h6⟩
  · cases h4
  · exact Or.inr ⟨b, off, h5, fun j hj => by rw [h6 j (by omega)]; simp [List.getD, hj]⟩
theorem byt_app {xs ys : List Int} (h : Byt xs) (k : Byt ys) : Byt (xs ++ ys) := fun x hx => (List.mem_append.1 hx).elim (h x) (k x)
theorem byt_take {xs : List Int} (h : Byt xs) (i : Nat) : Byt (xs.take i) := fun x hx => h x (List.mem_of_mem_take hx)
theorem take_init {l xs : List Int} {i : Nat} (h : l.length = i + 1) : (l ++ xs).take i = l.dropLast := by
  rw [List.take_append_of_le_length (by omega), List.dropLast_eq_take, show l.length - 1 = i by omega]
theorem in_63 {s : Int} (h1 : -9223372036854775808 ≤ s) (h2 : s < 9223372036854775808) : -(2 ^ (64 - 1)) ≤ s ∧ s < 2 ^ (64 - 1) := ⟨h1, h2⟩
/-- How much is asked of bits. -/
theorem ways_ex (n : Nat) (s : Int) (bits : Nat) (b1 : bits ≤ 64) (hn : n < 18446744073709551616) (h1 : -9223372036854775808 ≤ s) (h2 : s < 9223372036854775808) (z3 z4 : Int) (e3 e4 : Nat)
    (k3 : (z3, e3) = if n < 2 ^ bits then ((n : Int), 0) else (0, 101)) (k4 : (z4, e4) = if -(2 ^ (bits - 1)) ≤ s ∧ s < 2 ^ (bits - 1) then ((n : Int), 0) else (0, 101)) : Ways n s z3 (e3 : Int) z4 (e4 : Int) bits := by
  by_cases h64 : bits = 64
  · subst h64
    rw [if_pos (show n < 2 ^ 64 by omega)] at k3
    rw [if_pos (in_63 h1 h2)] at k4
    injection k3 with a1 a2
    injection k4 with a3 a4
    exact Or.inl ⟨rfl, by rw [a2]; rfl, a1, by rw [a4]; rfl, a3⟩
  · have eU := dec_shr n bits
    have eS := shr_ok s (bits - 1)
    refine Or.inr ⟨h64, ?_, ?_⟩
    · rw [eU]
      have e : ((2 : Int) ^ bits) = ((2 ^ bits : Nat) : Int) := by rw [Int.natCast_pow]; rfl
      by_cases h : n < 2 ^ bits
      · rw [if_pos h] at k3
        injection k3 with a1 a2
        exact Or.inl ⟨decide_eq_true (by rw [e]; omega), by rw [a2]; rfl, a1⟩
      · rw [if_neg h] at k3
        injection k3 with a1 a2
        exact Or.inr ⟨decide_eq_false (by rw [e]; omega), by rw [a2]; rfl⟩
    · by_cases h : -(2 ^ (bits - 1)) ≤ s ∧ s < 2 ^ (bits - 1)
      · rw [decide_eq_true h] at eS
        rw [if_pos h] at k4
        injection k4 with a1 a2
        cases q0 : (s / 2 ^ (bits - 1) == 0)
        · rw [q0, Bool.false_or] at eS
          exact Or.inr (Or.inl ⟨rfl, eS, by rw [a2]; rfl, a1⟩)
        · exact Or.inl ⟨rfl, by rw [a2]; rfl, a1⟩
      · rw [decide_eq_false h] at eS
        rw [if_neg h] at k4
        injection k4 with a1 a2
        simp only [Bool.or_eq_false_iff] at eS
        exact Or.inr (Or.inr ⟨eS.1, eS.2, by rw [a2]; rfl⟩)
theorem out_form (t : Int × Nat × Nat) : outT 0 t = .tuple #[.int .u64 (t.1 % 18446744073709551616), .int .i64 (if t.2.2 = 0 then ((0 + t.2.1 : Nat) : Int) else 0), .int .i64 (t.2.2 : Int)] := rfl
theorem back_any {a : Option Addr} {len cap : Nat} {xs : List Int} (x bits : Int) (W : World) (x0 : 0 ≤ x) (x1 : x < 18446744073709551616) (hX : Byt xs) (hS : len ≤ 140737488355328 → Sl W a len cap xs) :
    Calls Try.prog 5 #[.int .u64 x, .slice a len cap, .int .i64 bits] W fun r W' => r = .returned (.bool true) ∧ Below W.heap.size W W' := by
  by_cases h : (100 : Int) < (len : Int) ∨ bits < 1 ∨ 64 < bits
  · exact back_big W h
  have hS := hS (by omega)
  obtain ⟨n, rfl⟩ := Int.eq_ofNat_of_zero_le x0
  obtain ⟨b, rfl⟩ := Int.eq_ofNat_of_zero_le (show 0 ≤ bits by omega)
  have hn : n < 18446744073709551616 := by omega
  obtain ⟨s, h1, h2, h3⟩ := sgn_ex n hn
  have P1 := putUint_any n hn
  have P2 := putSint_any s h1 h2
  rw [h3] at P2
  have L1 := putU_len 9 n (Nat.lt_of_lt_of_le hn (by decide))
  have L2 := putS_len 9 s (by omega) (by omega)
  have B1 := putU_byt n n (Nat.le_refl _)
  have B2 := putS_byt s.natAbs s (Nat.le_refl _)
  obtain ⟨i, hi⟩ : ∃ i, (putU n).length = i + 1 := ⟨(putU n).length - 1, by have := List.length_pos_iff.2 (putU_ne n); omega⟩
  obtain ⟨k, hk⟩ : ∃ k, (putS s).length = k + 1 := ⟨(putS s).length - 1, by have := List.length_pos_iff.2 (putS_ne s); omega⟩
  have hw : IntKind.i64.wrap (n : Int) = s := by rw [← h3]; exact s_range h1 h2
  have E1 : (putU n ++ xs).length = i + 1 + len := by rw [List.length_append, hi, hS.1]
  have E2 : (putS s ++ xs).length = k + 1 + len := by rw [List.length_append, hk, hS.1]
  have R1 := rd_putU xs n n 64 (Nat.le_refl _)
  rw [if_pos (show n < 2 ^ 64 by omega)] at R1
  have R2 := rd_putS xs s.natAbs s 64 (Nat.le_refl _) (by omega)
  rw [if_pos (in_63 h1 h2)] at R2
  have F1 : rd VU okU ((putU n ++ xs).take i) 64 = (0, 0, 100) := by
    rw [take_init hi]
    exact rd_follow _ _ (putU_follow n n (Nat.le_refl _)) (by rw [List.length_dropLast]; omega)
  have F2 : rd VS okS ((putS s ++ xs).take k) 64 = (0, 0, 100) := by
    rw [take_init hk]
    exact rd_follow _ _ (putS_follow s.natAbs s (Nat.le_refl _)) (by rw [List.length_dropLast]; omega)
  have U1 : Hid (∀ g c W, Sl W (some ⟨g, 0, none⟩) (i + 1 + len) c (putU n ++ xs) → Calls Try.prog 8 #[.slice (some ⟨g, 0, none⟩) (i + 1 + len) c, .int .i64 0, .int .i64 64] W fun r W' => r = .returned (.tuple #[.int .u64 (n : Int), .int .i64 ((i : Int) + 1), .int .i64 0]) ∧ Below W.heap.size W W') := hide (fun g c W hs => by
    have := uint_any (k := 0) (bits := 64) (hide (byt_app B1 hX)) (hide hs) (by omega) (by omega) (by omega)
    rw [List.drop_zero, R1, out_n n _ i hn hi] at this
    exact this)
  have S1 : Hid (∀ g c W, Sl W (some ⟨g, 0, none⟩) (k + 1 + len) c (putS s ++ xs) → Calls Try.prog 9 #[.slice (some ⟨g, 0, none⟩) (k + 1 + len) c, .int .i64 0, .int .i64 64] W fun r W' => r = .returned (.tuple #[.int .u64 (n : Int), .int .i64 ((k : Int) + 1), .int .i64 0]) ∧ Below W.heap.size W W') := hide (fun g c W hs => by
    have := sint_any (k := 0) (bits := 64) (hide (byt_app B2 hX)) (hide hs) (by omega) (by omega) (by omega)
    rw [List.drop_zero, R2, out_s n s _ k h3 hk] at this
    exact this)
  have U2 : Hid (∀ g c W, Sl W (some ⟨g, 0, none⟩) (i + 1 + len) c (putU n ++ xs) → Calls Try.prog 8 #[.slice (some ⟨g, 0, none⟩) i c, .int .i64 0, .int .i64 64] W fun r W' => r = .returned (.tuple #[.int .u64 0, .int .i64 0, .int .i64 100]) ∧ Below W.heap.size W W') := hide (fun g c W hs => by
    have := uint_any (k := 0) (bits := 64) (hide (byt_take (byt_app B1 hX) i)) (hide (sl_cut hs (show i ≤ i + 1 + len by omega))) (by omega) (by omega) (by omega)
    rw [List.drop_zero, F1] at this
    exact this)
  have S2 : Hid (∀ g c W, Sl W (some ⟨g, 0, none⟩) (k + 1 + len) c (putS s ++ xs) → Calls Try.prog 9 #[.slice (some ⟨g, 0, none⟩) k c, .int .i64 0, .int .i64 64] W fun r W' => r = .returned (.tuple #[.int .u64 0, .int .i64 0, .int .i64 100]) ∧ Below W.heap.size W W') := hide (fun g c W hs => by
    have := sint_any (k := 0) (bits := 64) (hide (byt_take (byt_app B2 hX) k)) (hide (sl_cut hs (show k ≤ k + 1 + len by omega))) (by omega) (by omega) (by omega)
    rw [List.drop_zero, F2] at this
    exact this)
  have R3 := rd_putU xs n n b (Nat.le_refl _)
  have R4 := rd_putS xs s.natAbs s b (Nat.le_refl _) (by omega)
  obtain ⟨t3, ht3⟩ : ∃ t, rd VU okU (putU n ++ xs) b = t := ⟨_, rfl⟩
  obtain ⟨t4, ht4⟩ : ∃ t, rd VS okS (putS s ++ xs) b = t := ⟨_, rfl⟩
  have HW : Ways n s (t3.1 % 18446744073709551616) (t3.2.2 : Int) (t4.1 % 18446744073709551616) (t4.2.2 : Int) b := by
    refine ways_ex n s b (by omega) hn h1 h2 _ _ _ _ ?_ ?_
    · rw [← ht3, R3]
      by_cases hh : n < 2 ^ b
      · rw [if_pos hh, if_pos hh]
        exact Prod.ext (Int.emod_eq_of_lt (by omega) (by omega)) rfl
      · rw [if_neg hh, if_neg hh]; rfl
    · rw [← ht4, R4]
      by_cases hh : -(2 ^ (b - 1)) ≤ s ∧ s < 2 ^ (b - 1)
      · rw [if_pos hh, if_pos hh]
        exact Prod.ext h3 rfl
      · rw [if_neg hh, if_neg hh]; rfl
  have U3 : Hid (∀ g c W, Sl W (some ⟨g, 0, none⟩) (i + 1 + len) c (putU n ++ xs) → Calls Try.prog 8 #[.slice (some ⟨g, 0, none⟩) (i + 1 + len) c, .int .i64 0, .int .i64 (b : Int)] W fun r W' => r = .returned (.tuple #[.int .u64 (t3.1 % 18446744073709551616), .int .i64 (if t3.2.2 = 0 then ((0 + t3.2.1 : Nat) : Int) else 0), .int .i64 (t3.2.2 : Int)]) ∧ Below W.heap.size W W') := hide (fun g c W hs => by
    have := uint_any (k := 0) (bits := b) (hide (byt_app B1 hX)) (hide hs) (by omega) (by omega) (by omega)
    rw [List.drop_zero, ht3, out_form] at this
    exact this)
  have S3 : Hid (∀ g c W, Sl W (some ⟨g, 0, none⟩) (k + 1 + len) c (putS s ++ xs) → Calls Try.prog 9 #[.slice (some ⟨g, 0, none⟩) (k + 1 + len) c, .int .i64 0, .int .i64 (b : Int)] W fun r W' => r = .returned (.tuple #[.int .u64 (t4.1 % 18446744073709551616), .int .i64 (if t4.2.2 = 0 then ((0 + t4.2.1 : Nat) : Int) else 0), .int .i64 (t4.2.2 : Int)]) ∧ Below W.heap.size W W') := hide (fun g c W hs => by
    have := sint_any (k := 0) (bits := b) (hide (byt_app B2 hX)) (hide hs) (by omega) (by omega) (by omega)
    rw [List.drop_zero, ht4, out_form] at this
    exact this)
  rcases hS.2.2.2 with ⟨rfl, rfl, rfl⟩ | ⟨bb, off, rfl, h4⟩
  · have hE : xs = [] := List.eq_nil_of_length_eq_zero hS.1
    exact back_none W (by omega) (by omega) (by omega) (by omega) hw P1 P2 (putU_ne n) (putS_ne s) (hide L1) (hide L2) (by omega) (by omega) (hide E1) (hide E2) (hide hE) U1 S1 U2 S2 U3 S3 (hide HW)
  · exact back_some W (by omega) (by omega) (by omega) (by omega) (by omega) hw P1 P2 (putU_ne n) (putS_ne s) (hide L1) (hide L2) (hide hS.1) (by omega) (by omega) (hide E1) (hide E2) (hide h4) (hide (by rw [bys_len, hS.1, Nat.mul_one])) U1 S1 U2 S2 U3 S3 (hide HW)
end Go.Proofs.Ytbmkhhkklglomaa
