/- ScI. -/
import Derived.Test.YtjoonmpjcophnaaGreatDoorUa25
import Derived.Test.YtjoonmpjcophnaaGreatDoorUa26
import Derived.LoopN
namespace Go.Proofs.YtjoonmpjcophnaaGreatDoor
open Go.RowKit

theorem piece_any {c : Nat} {a : Option Addr} {len cap k : Nat} {xs : List Int} {e : Int} {n : Nat} {W : World} (h : Cs c a len cap xs k e W) (hb : n < 4294967296) :
    Calls Tryz.prog 104 #[.pointer (some ⟨c, 0, none⟩), .int .u32 (n : Int)] W fun r W' => ∃ x1 x2 x3, r = .returned (.slice x1 x2 x3) ∧ Sl W' x1 x2 x3 (lift (rP n) [] xs k e).1 ∧ (∀ p, x1 = some p → 0 < x2 → p.block ≠ c) ∧ Cs c a len cap xs (lift (rP n) [] xs k e).2.1 (lift (rP n) [] xs k e).2.2 W' ∧ Fr [c] W W' := by
  by_cases he : e = 0
  · subst he
    refine (piece_live (V := fun _ => Pc c (rP n (xs.drop k)).1) (hide fun W q0 q1 n0 n1 hC hB => by
      by_cases hn : n ≤ len - k
      · exact piece1_ok hC hn n0 n1 hB
      · exact piece1_no hC hn hb n0 n1 hB) h).mono ?_
    rintro _ w ⟨v, rfl, hV, hC, hF⟩
    rw [(gd_P n).lift0]
    have hP : Pc c (pk (rP n (xs.drop k)).2.2 (rP n (xs.drop k)).1 []) v w := by
      by_cases h0 : (rP n (xs.drop k)).2.2 = 0
      · rw [h0, pk_0]; exact hV.1 h0
      · rw [pk_e h0, hV.2 h0]; exact pc_nil c w
    obtain ⟨x1, x2, x3, rfl, hS, hp⟩ := hP
    exact ⟨x1, x2, x3, rfl, hS, hp, hC, hF⟩
  · rw [lift_e _ _ _ _ he]
    refine (piece_dead h he).mono ?_
    rintro _ w ⟨rfl, hC, hF⟩
    obtain ⟨x1, x2, x3, h1, hS, hp⟩ := pc_nil c w
    exact ⟨none, 0, 0, rfl, (nw_nil 0 w).1, by simp, hC, hF⟩
theorem take_more (l : List Int) (i : Nat) (hi : i < l.length) : l.take (i + 1) = l.take i ++ [l.getD i 0] := by
  rw [List.take_add_one, List.getD_eq_getElem?_getD, List.getElem?_eq_getElem hi]
  rfl
theorem pow_8 (i : Nat) : (256 : Int) ^ i = 2 ^ (8 * i) := by
  rw [Int.pow_mul, show (2 : Int) ^ 8 = 256 by decide]
theorem low_step {l : List Int} (hb : Byt l) (i : Nat) (hi : i < l.length) (h8 : i < 8) : bits .or .u64 (lsf (l.take i)) (IntKind.u64.wrap (l.getD i 0 * 2 ^ (8 * i))) = lsf (l.take (i + 1)) ∧ 0 ≤ lsf (l.take i) ∧ lsf (l.take i) < 18446744073709551616 := by
  have hy := hb.at i hi
  have b1 : Byt (l.take i) := fun x hx => hb x (List.mem_of_mem_take hx)
  have b2 : Byt (l.take (i + 1)) := fun x hx => hb x (List.mem_of_mem_take hx)
  have l1 := lsf_lt b1
  have l2 := lsf_lt b2
  rw [List.length_take, Nat.min_eq_left (by omega)] at l1 l2
  have hm := take_more l i hi
  rw [hm, lsf_app, List.length_take, Nat.min_eq_left (by omega)] at l2
  rw [hm, lsf_app, List.length_take, Nat.min_eq_left (by omega)]
  have p8 : (256 : Int) ^ (i + 1) ≤ 18446744073709551616 := by
    have : (256 : Nat) ^ (i + 1) ≤ 256 ^ 8 := Nat.pow_le_pow_right (by omega) (by omega)
    have e : (256 : Nat) ^ 8 = 18446744073709551616 := by decide
    rw [e] at this
    have h2 := Int.ofNat_le.2 this
    rw [Int.natCast_pow] at h2
    exact h2
  have p9 : (256 : Int) ^ i ≤ 256 ^ (i + 1) := by
    have : (0 : Int) < 256 ^ i := Int.pow_pos (by decide)
    rw [Int.pow_succ]
    omega
  obtain ⟨n, hn⟩ := Int.eq_ofNat_of_zero_le l1.1
  obtain ⟨t, ht⟩ := Int.eq_ofNat_of_zero_le hy.1
  rw [hn] at l1 l2 ⊢
  rw [ht] at l2 ⊢
  have hd : n < 2 ^ (8 * i) := by
    have h := l1.2
    rw [pow_8] at h
    have e : (2 : Int) ^ (8 * i) = ((2 ^ (8 * i) : Nat) : Int) := by rw [Int.natCast_pow]; rfl
    rw [e] at h
    exact Int.ofNat_lt.1 h
  have := or_shl (t := t) hd (by omega)
  rw [this]
  have e : ((n + t * 2 ^ (8 * i) : Nat) : Int) = (n : Int) + 256 ^ i * t := by
    rw [Int.natCast_add, Int.natCast_mul, Int.natCast_pow, pow_8, Int.mul_comm]
    rfl
  rw [e]
  generalize (256 : Int) ^ i * t = P at *
  omega
set_option maxHeartbeats 1000000 in
set_option maxRecDepth 100000 in
theorem low_any {c : Nat} {a : Option Addr} {len cap k : Nat} {xs : List Int} {e : Int} {n : Nat} {W : World} (h : Cs c a len cap xs k e W) (hn : n ≤ 8) :
    Calls Tryz.prog 75 #[.pointer (some ⟨c, 0, none⟩), .int .u32 (n : Int)] W fun r W' => r = .returned (.int .u64 (lsf (lift (rP n) [] xs k e).1)) ∧ Cs c a len cap xs (lift (rP n) [] xs k e).2.1 (lift (rP n) [] xs k e).2.2 W' ∧ Fr [c] W W' := by
  have HP := hide (piece_any (n := n) h (by omega))
  have HLn : Hid ((lift (rP n) [] xs k e).1.length ≤ 8) := hide (by
    by_cases he : e = 0
    · subst he
      rw [lift_0]
      by_cases hq : n ≤ (xs.drop k).length
      · rw [rP_ok hq, List.length_take]; omega
      · rw [rP_no hq]; simp
    · rw [lift_e _ _ _ _ he]; simp)
  have HY : Hid (Byt (lift (rP n) [] xs k e).1) := hide (by
    by_cases he : e = 0
    · subst he
      rw [lift_0]
      by_cases hq : n ≤ (xs.drop k).length
      · rw [rP_ok hq]; exact fun x hx => byt_dropS h.2.2.2.1 k x (List.mem_of_mem_take hx)
      · rw [rP_no hq]; intro x hx; simp at hx
    · rw [lift_e _ _ _ _ he]; intro x hx; simp at hx)
  clear h hn
  generalize lift (rP n) [] xs k e = L at *
  obtain ⟨ys, k1, e1⟩ := L
  dsimp only at *
  go_enter Tryz.func75, Tryz.ntmps75
  go_wp2_with fail
  refine (unhide HP).mono ?_
  rintro _ w1 ⟨x1, x2, x3, rfl, hS, hp, hC, hF⟩
  have HC := hide hC
  have HF := hide hF
  have HL := hide hS.1
  have HE := hide (show ∀ j, j < x2 → ∃ b off, x1 = some ⟨b, off, none⟩ ∧ w1.cell? ⟨b, off + j, none⟩ = some (.int .u8 (ys.getD j 0)) from fun j hj => by
    rcases hS.2.2.2 with ⟨_, h2, _⟩ | ⟨b, off, h5, h6⟩
    · omega
    · exact ⟨b, off, h5, h6 j hj⟩)
  have hx3 := hS.2.1
  have hx2 : x2 ≤ 8 := by have := hS.1; have := unhide HLn; omega
  clear hC hF hS hp
  go_wp2_with fail
  go_loop [5, 12] (fun v5 v12 => ∃ i : Nat, i ≤ x2 ∧ v12 = .int .i64 (i : Int) ∧ v5 = .int .u64 (lsf (ys.take i))) (fun _ v12 => x2 - (intOf v12).toNat)
  case atStart => exact ⟨0, by omega, rfl, rfl⟩
  case round =>
    obtain ⟨i, hi, rfl, rfl⟩ := hrel
    by_cases hlt : i < x2
    · obtain ⟨b, off, rfl, hc⟩ := unhide HE i hlt
      have hi' : (i : Int) < (x2 : Int) := by omega
      have ⟨s1, s2, s3⟩ := low_step (unhide HY) i (by rw [unhide HL]; exact hlt) (by omega)
      have hy := (unhide HY).at i (by rw [unhide HL]; exact hlt)
      obtain ⟨Y, hY⟩ : ∃ Y, lsf (ys.take (i + 1)) = Y := ⟨_, rfl⟩
      rw [hY] at s1
      have HYe := hide hY
      clear hY
      generalize lsf (ys.take i) = X at *
      generalize ys.getD i 0 = y at *
      go_wp2_with fail
      exact ⟨⟨i + 1, by omega, by go_num, by rw [unhide HYe]⟩, by simp [intOf]; omega⟩
    · obtain rfl : i = x2 := by omega
      have hE : Hid (ys.take i = ys) := hide (List.take_of_length_le (by rw [unhide HL]; omega))
      rw [unhide hE]
      go_wp2_with fail
      go_ret
      exact ⟨rfl, unhide HC, unhide HF⟩
theorem lift_rL (xs : List Int) (k : Nat) (e : Int) (n : Nat) : lift (rL n) 0 xs k e = (lsf (lift (rP n) [] xs k e).1, (lift (rP n) [] xs k e).2.1, (lift (rP n) [] xs k e).2.2) := by
  by_cases he : e = 0
  · subst he
    rw [lift_0, lift_0]
    unfold rL rP
    by_cases h : n ≤ (xs.drop k).length
    · rw [if_pos h, if_pos h]
    · rw [if_neg h, if_neg h]; rfl
  · rw [lift_e _ _ _ _ he, lift_e _ _ _ _ he]; rfl
theorem fixed_in {c : Nat} {a : Option Addr} {len cap k : Nat} {xs : List Int} {e : Int} {n : Nat} {W : World} (h : Cs c a len cap xs k e W) (hn : n ≤ 8) :
    Calls Tryz.prog 75 #[.pointer (some ⟨c, 0, none⟩), .int .u32 (n : Int)] W fun r W' => r = .returned (.int .u64 (lift (rL n) 0 xs k e).1) ∧ Cs c a len cap xs (lift (rL n) 0 xs k e).2.1 (lift (rL n) 0 xs k e).2.2 W' ∧ Fr [c] W W' := by
  have := low_any h hn
  rw [lift_rL]
  exact this
set_option maxHeartbeats 1000000 in
set_option maxRecDepth 100000 in
theorem byte_any {c : Nat} {a : Option Addr} {len cap k : Nat} {xs : List Int} {e : Int}  {W : World} (h : Cs c a len cap xs k e W) :
    Calls Tryz.prog 47 #[.pointer (some ⟨c, 0, none⟩)] W fun r W' => r = .returned (.int .u8 (lift rB 0 xs k e).1) ∧ Cs c a len cap xs (lift rB 0 xs k e).2.1 (lift rB 0 xs k e).2.2 W' ∧ Fr [c] W W' := by
  have hlt := lift_rB_lt h.2.2.2.1 k e
  have HN := hide (fixed_in (n := 1) h (by omega))
  rw [lift_rL_1] at HN
  clear h
  generalize lift rB 0 xs k e = L at *
  obtain ⟨y, k1, e1⟩ := L
  dsimp only at *
  go_enter Tryz.func47, Tryz.ntmps47
  go_wp2_with fail
  refine (unhide HN).mono ?_
  rintro _ w1 ⟨rfl, hC, hF⟩
  have HC := hide hC
  have HF := hide hF
  clear hC hF
  go_wp2_with fail
  go_ret
  exact ⟨rfl, unhide HC, unhide HF⟩
set_option maxHeartbeats 1000000 in
set_option maxRecDepth 100000 in
theorem fixed4_any {c : Nat} {a : Option Addr} {len cap k : Nat} {xs : List Int} {e : Int}  {W : World} (h : Cs c a len cap xs k e W) :
    Calls Tryz.prog 178 #[.pointer (some ⟨c, 0, none⟩), .int .i64 4] W fun r W' => r = .returned (.int .u64 (lift (rL 4) 0 xs k e).1) ∧ Cs c a len cap xs (lift (rL 4) 0 xs k e).2.1 (lift (rL 4) 0 xs k e).2.2 W' ∧ Fr [c] W W' := by
  have HN := hide (fixed_in (n := 4) h (by omega))
  clear h
  generalize lift (rL 4) 0 xs k e = L at *
  obtain ⟨y, k1, e1⟩ := L
  dsimp only at *
  go_enter Tryz.func178, Tryz.ntmps178
  go_wp2_with fail
  refine (unhide HN).mono ?_
  rintro _ w1 ⟨rfl, hC, hF⟩
  have HC := hide hC
  have HF := hide hF
  clear hC hF
  go_wp2_with fail
  go_ret
  exact ⟨rfl, unhide HC, unhide HF⟩
set_option maxHeartbeats 1000000 in
set_option maxRecDepth 100000 in
theorem fixed8_any {c : Nat} {a : Option Addr} {len cap k : Nat} {xs : List Int} {e : Int}  {W : World} (h : Cs c a len cap xs k e W) :
    Calls Tryz.prog 178 #[.pointer (some ⟨c, 0, none⟩), .int .i64 8] W fun r W' => r = .returned (.int .u64 (lift (rL 8) 0 xs k e).1) ∧ Cs c a len cap xs (lift (rL 8) 0 xs k e).2.1 (lift (rL 8) 0 xs k e).2.2 W' ∧ Fr [c] W W' := by
  have HN := hide (fixed_in (n := 8) h (by omega))
  clear h
  generalize lift (rL 8) 0 xs k e = L at *
  obtain ⟨y, k1, e1⟩ := L
  dsimp only at *
  go_enter Tryz.func178, Tryz.ntmps178
  go_wp2_with fail
  refine (unhide HN).mono ?_
  rintro _ w1 ⟨rfl, hC, hF⟩
  have HC := hide hC
  have HF := hide hF
  clear hC hF
  go_wp2_with fail
  go_ret
  exact ⟨rfl, unhide HC, unhide HF⟩
set_option maxHeartbeats 1000000 in
set_option maxRecDepth 100000 in
theorem Fail_any {c : Nat} {a : Option Addr} {len cap k : Nat} {xs : List Int} {e x : Int} {W : World} (h : Cs c a len cap xs k e W) :
    Calls Tryz.prog 20 #[.pointer (some ⟨c, 0, none⟩), .int .i64 x] W fun r W' => r = .returned (.tuple #[]) ∧ Cs c a len cap xs k (if e = 0 then x else e) W' ∧ Fr [c] W W' := by
  have HN := hide (fail_any (x := x) h)
  clear h
  generalize (if e = 0 then x else e) = e1 at *
  go_enter Tryz.func20, Tryz.ntmps20
  go_wp2_with fail
  refine (unhide HN).mono ?_
  rintro _ w1 ⟨rfl, hC, hF⟩
  have HC := hide hC
  have HF := hide hF
  clear hC hF
  go_wp2_with fail
  exact bodyPost_end (results_none rfl _ _ _) rfl ⟨rfl, unhide HC, unhide HF⟩
set_option maxHeartbeats 1000000 in
set_option maxRecDepth 100000 in
theorem take_any {c : Nat} {a : Option Addr} {len cap k : Nat} {xs : List Int} {e : Int} {n : Nat} {W : World} (h : Cs c a len cap xs k e W) (hb : n < 4294967296) :
    Calls Tryz.prog 76 #[.pointer (some ⟨c, 0, none⟩), .int .u32 (n : Int)] W fun r W' => ∃ x1 x2 x3, r = .returned (.slice x1 x2 x3) ∧ Nw W.heap.size x1 x2 x3 (lift (rP n) [] xs k e).1 W' ∧ Cs c a len cap xs (lift (rP n) [] xs k e).2.1 (lift (rP n) [] xs k e).2.2 W' ∧ Fr [c] W W' := by
  have HP := hide (piece_any h hb)
  have hlen : (lift (rP n) [] xs k e).1.length ≤ 7000 := by
    have hl := h.2.2.2.2.2
    have hx := h.2.1.1
    by_cases he : e = 0
    · subst he
      rw [lift_0]
      by_cases hq : n ≤ (xs.drop k).length
      · rw [rP_ok hq, List.length_take, List.length_drop]; omega
      · rw [rP_no hq]; simp
    · rw [lift_e _ _ _ _ he]; simp
  have HLn := hide hlen
  clear h hb hlen
  generalize lift (rP n) [] xs k e = L at *
  obtain ⟨y, k1, e1⟩ := L
  dsimp only at *
  go_enter Tryz.func76, Tryz.ntmps76
  go_wp2_with fail
  refine (unhide HP).mono ?_
  rintro _ w1 ⟨x1, x2, x3, rfl, hS, hp, hC, hF⟩
  have hx2 : x2 ≤ 7000 := by have := hS.1; have := unhide HLn; omega
  have HK := hide (clone_any hS hx2)
  have HC := hide hC
  have HF := hide hF
  clear hC hF hp hS
  go_wp2_with fail
  refine (unhide HK).mono ?_
  rintro _ w2 ⟨y1, y3, rfl, hN, hF⟩
  have HN := hide (hN.mono (unhide HF).size)
  have HC := hide ((unhide HC).bel hF.nil)
  have HF := hide ((unhide HF).trans (hF.mono (by simp)))
  clear hN hF
  go_wp2_with fail
  go_ret
  exact ⟨_, _, _, rfl, unhide HN, unhide HC, unhide HF⟩
set_option maxHeartbeats 1000000 in
set_option maxRecDepth 100000 in
theorem take_nil {z : Int} {W : World} : Calls Tryz.prog 76 #[.pointer none, .int .u32 z] W fun r W' => r = .returned (.slice none 0 0) ∧ Fr [] W W' := by
  have HP := hide (piece_nil (z := z) (W := W))
  have HKn := hide (fun W => clone_nil (W := W))
  go_enter Tryz.func76, Tryz.ntmps76
  go_wp2_with fail
  refine (unhide HP).mono ?_
  rintro _ w1 ⟨rfl, hF⟩
  have HF := hide hF
  clear hF
  go_wp2_with fail
  refine (unhide HKn _).mono ?_
  rintro _ w2 ⟨rfl, rfl⟩
  go_wp2_with fail
  go_ret
  exact ⟨rfl, unhide HF⟩
end Go.Proofs.YtjoonmpjcophnaaGreatDoor
