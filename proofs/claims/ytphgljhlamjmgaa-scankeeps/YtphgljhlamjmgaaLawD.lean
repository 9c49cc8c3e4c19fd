/- A cursor that is none; what a step keeps. -/
import Derived.Test.YtphgljhlamjmgaaLawC
namespace Go.Proofs.Ytphgljhlamjmgaa
open Go.RowKit

theorem stp_gd {K n : Int} (hK : K ≠ 15) : ∃ (A : Type) (f : Rr A) (z : A), Gd f z ∧ ∀ xs k e, stp K n xs k e = (lift f z xs k e).2 := by
  by_cases ho : K < 1 ∨ 15 < K
  · exact ⟨Unit, giv (), (), gd_giv _ _, fun xs k e => by
      rw [stp_o ho, lift_giv]⟩
  have hK : K = 1 ∨ K = 2 ∨ K = 3 ∨ K = 4 ∨ K = 5 ∨ K = 6 ∨ K = 7 ∨ K = 8 ∨ K = 9 ∨ K = 10 ∨ K = 11 ∨ K = 12 ∨ K = 13 ∨ K = 14 := by omega
  rcases hK with rfl | rfl | rfl | rfl | rfl | rfl | rfl | rfl | rfl | rfl | rfl | rfl | rfl | rfl
  · exact ⟨_, _, _, gd_B, fun _ _ _ => rfl⟩
  · exact ⟨_, _, _, gd_U 32, fun _ _ _ => rfl⟩
  · exact ⟨_, _, _, gd_S 32, fun _ _ _ => rfl⟩
  · exact ⟨_, _, _, gd_S 64, fun _ _ _ => rfl⟩
  · by_cases h4 : n = 4
    · subst h4; exact ⟨_, _, _, gd_L 4, fun _ _ _ => rfl⟩
    · by_cases h8 : n = 8
      · subst h8; exact ⟨_, _, _, gd_L 8, fun _ _ _ => rfl⟩
      · exact ⟨_, _, _, gd_Arg, fun xs k e => by unfold stp; simp [h4, h8]⟩
  · exact ⟨_, _, _, gd_P (clp n), fun _ _ _ => rfl⟩
  · exact ⟨_, _, _, gd_Name, fun _ _ _ => rfl⟩
  · exact ⟨_, _, _, gd_Count, fun _ _ _ => rfl⟩
  · exact ⟨_, _, _, gd_Value, fun _ _ _ => rfl⟩
  · exact ⟨_, _, _, gd_One [127, 126, 125, 124, 64] 106, fun _ _ _ => rfl⟩
  · exact ⟨_, _, _, gd_Limits, fun _ _ _ => rfl⟩
  · exact ⟨_, _, _, gd_Global, fun _ _ _ => rfl⟩
  · exact ⟨_, _, _, gd_Table, fun _ _ _ => rfl⟩
  · exact ⟨_, _, _, gd_Func, fun _ _ _ => rfl⟩
theorem stp_dead {K n : Int} (hK : K ≠ 15) (xs : List Int) (k : Nat) {e : Int} (he : e ≠ 0) : stp K n xs k e = (k, e) := by
  obtain ⟨A, f, z, _, h⟩ := stp_gd (n := n) hK
  rw [h, lift_e _ _ _ _ he]
theorem stp_len {K n : Int} (hK : K ≠ 15) (xs : List Int) (k : Nat) (e : Int) (hk : k ≤ xs.length) : k ≤ (stp K n xs k e).1 ∧ (stp K n xs k e).1 ≤ xs.length := by
  obtain ⟨A, f, z, hg, h⟩ := stp_gd (n := n) hK
  rw [h]
  refine ⟨?_, lift_len hg xs k e hk⟩
  by_cases he : e = 0
  · subst he; rw [lift_0]; exact Nat.le_add_right _ _
  · rw [lift_e _ _ _ _ he]; exact Nat.le_refl _
theorem stp_back {K n : Int} (hK : K ≠ 15) (xs : List Int) (k : Nat) (e : Int) (hn : (stp K n xs k e).2 ≠ 0) : (stp K n xs k e).1 = k := by
  obtain ⟨A, f, z, hg, h⟩ := stp_gd (n := n) hK
  rw [h] at hn ⊢
  rw [hg.nrmL xs k e hn]
theorem stp_shift {K n : Int} (hK : K ≠ 15) (xs : List Int) (k : Nat) (e : Int) : stp K n xs k e = (k + (stp K n (xs.drop k) 0 e).1, (stp K n (xs.drop k) 0 e).2) := by
  obtain ⟨A, f, z, hg, h⟩ := stp_gd (n := n) hK
  have := lift_shift f z xs k 0 e
  rw [Nat.add_zero] at this
  rw [h, h, this]
theorem stp_loc {K n : Int} (hK : K ≠ 15) (a b : List Int) (h1 : (stp K n a 0 0).2 ≠ 100) : stp K n (a ++ b) 0 0 = stp K n a 0 0 := by
  obtain ⟨A, f, z, hg, h⟩ := stp_gd (n := n) hK
  rw [h] at h1
  rw [h, h, lift_loc hg a b 0 0 (Nat.zero_le _) h1]
theorem stp_15 {K n : Int} {xs : List Int} {k : Nat} {e : Int} (hk : k ≤ xs.length) : (stp K n xs k e).1 ≤ xs.length := by
  by_cases hK : K = 15
  · subst hK
    have hE : stp 15 n xs k e = (k, if e = 0 then clq n else e) := by unfold stp; simp
    rw [hE]; exact hk
  · exact (stp_len hK xs k e hk).2
/-- A reader that has failed, and all else is as it was in a world. -/
def In (Wb : World) (r : Nat) (b : Option Addr) (lem cbp : Nat) (ys : List Int) (j : Nat) (f : Int) (w : World) : Prop := Cs r b lem cbp ys j f w ∧ Fr [r] Wb w
theorem In.bel {Wb : World} {r : Nat} {b : Option Addr} {lem cbp j : Nat} {ys : List Int} {f : Int} {w w' : World} (h : In Wb r b lem cbp ys j f w) (hb : Below w.heap.size w w') : In Wb r b lem cbp ys j f w' := ⟨h.1.bel hb, h.2.bel hb⟩
theorem ds_n {Wb : World} {r : Nat} {b : Option Addr} {lem cbp j : Nat} {ys : List Int} {f : Int} {F : Nat} {ar : Array Value} {v : Value} (H : ∀ w, Calls Try.prog F ar w fun R w' => R = .returned v ∧ Fr [] w w') : Ds F ar (In Wb r b lem cbp ys j f) (In Wb r b lem cbp ys j f) v := hide fun w h => by
  refine (H w).mono ?_
  rintro _ w' ⟨rfl, hF⟩
  exact ⟨rfl, h.bel hF.nil⟩
theorem ds_d {A : Type} {g : Rr A} {z : A} {Wb : World} {r : Nat} {b : Option Addr} {lem cbp j : Nat} {ys : List Int} {f : Int} {F : Nat} {ar : Array Value} {m : A → Value} (hf : f ≠ 0) (H : ∀ w, Cs r b lem cbp ys j f w → Calls Try.prog F ar w fun R w' => R = .returned (m (lift g z ys j f).1) ∧ Cs r b lem cbp ys (lift g z ys j f).2.1 (lift g z ys j f).2.2 w' ∧ Fr [r] w w') : Ds F ar (In Wb r b lem cbp ys j f) (In Wb r b lem cbp ys j f) (m z) := hide fun w h => by
  have := H w h.1
  rw [lift_e _ _ _ _ hf] at this
  refine this.mono ?_
  rintro _ w' ⟨rfl, hC, hF⟩
  exact ⟨rfl, hC, h.2.trans hF⟩
theorem in_box {r : Nat} {b : Option Addr} {lem cbp j : Nat} {ys : List Int} {f : Int} {W : World} (K n : Int) (h : Cs r b lem cbp ys j f W) : In (W.alloc (.cells #[.int .i64 K, .int .i64 n] 31)) r b lem cbp ys j f (W.alloc (.cells #[.int .i64 K, .int .i64 n] 31)) := ⟨h.alloc _, Fr.refl _ _⟩
theorem in_cell {r : Nat} {b : Option Addr} {lem cbp j : Nat} {ys : List Int} {f : Int} {W w : World} {K n : Int} (h : Cs r b lem cbp ys j f W) (hS : In (W.alloc (.cells #[.int .i64 K, .int .i64 n] 31)) r b lem cbp ys j f w) : w.cell? ⟨W.heap.size, 1, none⟩ = some (.int .i64 n) := by
  have h2 := h.1.lt
  exact hS.2.keep (by simp [go_sem]) (by simp; omega)
theorem in_end {r : Nat} {b : Option Addr} {lem cbp j : Nat} {ys : List Int} {f : Int} {W w : World} {K n : Int} (h : In (W.alloc (.cells #[.int .i64 K, .int .i64 n] 31)) r b lem cbp ys j f w) : Cs r b lem cbp ys j f w ∧ Fr [r] W w := ⟨h.1, ((Fr.refl _ W).alloc _).trans h.2⟩
theorem nl_1 {r : Nat} {b : Option Addr} {lem cbp j : Nat} {ys : List Int} {f : Int} {n : Int} {W : World} (hf : f ≠ 0) (h : Cs r b lem cbp ys j f W) :
    Calls Try.prog 25 #[.pointer none, .pointer (some ⟨r, 0, none⟩), .agg #[.int .i64 1, .int .i64 n]] W fun R w' => R = .returned (.bool true) ∧ Cs r b lem cbp ys j f w' ∧ Fr [r] W w' := by
  refine (small_1 (n := n) (ds_n fun _ => byte_nil) (ds_d (m := .int .u8) hf fun _ h => rByte_any h) (hide (in_box 1 n h))).mono ?_
  rintro _ w ⟨⟨t, rfl, ht⟩, hS⟩
  exact ⟨by rw [ht rfl], in_end hS⟩
theorem nl_2 {r : Nat} {b : Option Addr} {lem cbp j : Nat} {ys : List Int} {f : Int} {n : Int} {W : World} (hf : f ≠ 0) (h : Cs r b lem cbp ys j f W) :
    Calls Try.prog 25 #[.pointer none, .pointer (some ⟨r, 0, none⟩), .agg #[.int .i64 2, .int .i64 n]] W fun R w' => R = .returned (.bool true) ∧ Cs r b lem cbp ys j f w' ∧ Fr [r] W w' := by
  refine (small_2 (n := n) (ds_n fun _ => u32_nil) (ds_d (m := .int .u64) hf fun _ h => rUint_any (b := 32) h (by decide) (by decide)) (by decide) (by decide) (hide (in_box 2 n h))).mono ?_
  rintro _ w ⟨⟨t, rfl, ht⟩, hS⟩
  exact ⟨by rw [ht rfl], in_end hS⟩
theorem nl_3 {r : Nat} {b : Option Addr} {lem cbp j : Nat} {ys : List Int} {f : Int} {n : Int} {W : World} (hf : f ≠ 0) (h : Cs r b lem cbp ys j f W) :
    Calls Try.prog 25 #[.pointer none, .pointer (some ⟨r, 0, none⟩), .agg #[.int .i64 3, .int .i64 n]] W fun R w' => R = .returned (.bool true) ∧ Cs r b lem cbp ys j f w' ∧ Fr [r] W w' := by
  refine (small_3 (n := n) (ds_n fun _ => s32_nil) (ds_d (m := fun x => .int .u64 (x % 4294967296)) hf fun _ h => rSint32_any h) (by decide) (by decide) (hide (in_box 3 n h))).mono ?_
  rintro _ w ⟨⟨t, rfl, ht⟩, hS⟩
  exact ⟨by rw [ht rfl], in_end hS⟩
theorem nl_4 {r : Nat} {b : Option Addr} {lem cbp j : Nat} {ys : List Int} {f : Int} {n : Int} {W : World} (hf : f ≠ 0) (h : Cs r b lem cbp ys j f W) :
    Calls Try.prog 25 #[.pointer none, .pointer (some ⟨r, 0, none⟩), .agg #[.int .i64 4, .int .i64 n]] W fun R w' => R = .returned (.bool true) ∧ Cs r b lem cbp ys j f w' ∧ Fr [r] W w' := by
  refine (small_4 (n := n) (ds_n fun _ => s64_nil) (ds_d (m := .int .u64) hf fun _ h => rSint_any (b := 64) h (by decide) (by decide) (by decide)) (hide (in_box 4 n h))).mono ?_
  rintro _ w ⟨⟨t, rfl, ht⟩, hS⟩
  exact ⟨by rw [ht rfl], in_end hS⟩
theorem nl_7 {r : Nat} {b : Option Addr} {lem cbp j : Nat} {ys : List Int} {f : Int} {n : Int} {W : World} (hf : f ≠ 0) (h : Cs r b lem cbp ys j f W) :
    Calls Try.prog 25 #[.pointer none, .pointer (some ⟨r, 0, none⟩), .agg #[.int .i64 7, .int .i64 n]] W fun R w' => R = .returned (.bool true) ∧ Cs r b lem cbp ys j f w' ∧ Fr [r] W w' := by
  refine (small_7 (n := n) (ds_n fun _ => Name_nil) (ds_d (m := fun x => .string (strOfNums x)) hf fun _ h => rName_any h) (hide (in_box 7 n h))).mono ?_
  rintro _ w ⟨⟨t, rfl, ht⟩, hS⟩
  exact ⟨by rw [ht rfl], in_end hS⟩
theorem nl_8 {r : Nat} {b : Option Addr} {lem cbp j : Nat} {ys : List Int} {f : Int} {n : Int} {W : World} (hf : f ≠ 0) (h : Cs r b lem cbp ys j f W) :
    Calls Try.prog 25 #[.pointer none, .pointer (some ⟨r, 0, none⟩), .agg #[.int .i64 8, .int .i64 n]] W fun R w' => R = .returned (.bool true) ∧ Cs r b lem cbp ys j f w' ∧ Fr [r] W w' := by
  refine (small_8 (n := n) (ds_n fun _ => Count_nil) (ds_d (m := .int .i64) hf fun _ h => rCount_any h) (hide (in_box 8 n h))).mono ?_
  rintro _ w ⟨⟨t, rfl, ht⟩, hS⟩
  exact ⟨by rw [ht rfl], in_end hS⟩
theorem nl_9 {r : Nat} {b : Option Addr} {lem cbp j : Nat} {ys : List Int} {f : Int} {n : Int} {W : World} (hf : f ≠ 0) (h : Cs r b lem cbp ys j f W) :
    Calls Try.prog 25 #[.pointer none, .pointer (some ⟨r, 0, none⟩), .agg #[.int .i64 9, .int .i64 n]] W fun R w' => R = .returned (.bool true) ∧ Cs r b lem cbp ys j f w' ∧ Fr [r] W w' := by
  refine (small_9 (n := n) (ds_n fun _ => value_nil) (ds_d (m := .int .u8) hf fun _ h => rValue_any h) (hide (in_box 9 n h))).mono ?_
  rintro _ w ⟨⟨t, rfl, ht⟩, hS⟩
  exact ⟨by rw [ht rfl], in_end hS⟩
theorem nl_10 {r : Nat} {b : Option Addr} {lem cbp j : Nat} {ys : List Int} {f : Int} {n : Int} {W : World} (hf : f ≠ 0) (h : Cs r b lem cbp ys j f W) :
    Calls Try.prog 25 #[.pointer none, .pointer (some ⟨r, 0, none⟩), .agg #[.int .i64 10, .int .i64 n]] W fun R w' => R = .returned (.bool true) ∧ Cs r b lem cbp ys j f w' ∧ Fr [r] W w' := by
  refine (small_10 (n := n) (ds_n fun _ => results_nil) (ds_d (m := fun x => .int .u8 (if x = 64 then 0 else x)) hf fun _ h => rResults_any h) (hide (in_box 10 n h))).mono ?_
  rintro _ w ⟨⟨t, rfl, ht⟩, hS⟩
  exact ⟨by rw [ht rfl], in_end hS⟩
theorem nl_11 {r : Nat} {b : Option Addr} {lem cbp j : Nat} {ys : List Int} {f : Int} {n : Int} {W : World} (hf : f ≠ 0) (h : Cs r b lem cbp ys j f W) :
    Calls Try.prog 9 #[.pointer none, .pointer (some ⟨r, 0, none⟩), .agg #[.int .i64 11, .int .i64 n]] W fun R w' => R = .returned (.bool true) ∧ Cs r b lem cbp ys j f w' ∧ Fr [r] W w' := by
  refine (read_11 (n := n) (x := (0, 0, false)) (ds_n fun _ => Limits_nil) (ds_d (m := lmV) hf fun _ h => rLimits_any h) (hide (in_box 11 n h))).mono ?_
  rintro _ w ⟨⟨t, rfl, ht⟩, hS⟩
  exact ⟨by rw [ht rfl], in_end hS⟩
theorem nl_13 {r : Nat} {b : Option Addr} {lem cbp j : Nat} {ys : List Int} {f : Int} {n : Int} {W : World} (hf : f ≠ 0) (h : Cs r b lem cbp ys j f W) :
    Calls Try.prog 9 #[.pointer none, .pointer (some ⟨r, 0, none⟩), .agg #[.int .i64 13, .int .i64 n]] W fun R w' => R = .returned (.bool true) ∧ Cs r b lem cbp ys j f w' ∧ Fr [r] W w' := by
  refine (read_13 (n := n) (x := (0, 0, false)) (ds_n fun _ => Table_nil) (ds_d (m := lmV) hf fun _ h => rTable_any h) (hide (in_box 13 n h))).mono ?_
  rintro _ w ⟨⟨t, rfl, ht⟩, hS⟩
  exact ⟨by rw [ht rfl], in_end hS⟩
theorem nl_54 {r : Nat} {b : Option Addr} {lem cbp j : Nat} {ys : List Int} {f : Int} {W : World} (hf : f ≠ 0) (h : Cs r b lem cbp ys j f W) :
    Calls Try.prog 25 #[.pointer none, .pointer (some ⟨r, 0, none⟩), .agg #[.int .i64 5, .int .i64 4]] W fun R w' => R = .returned (.bool true) ∧ Cs r b lem cbp ys j f w' ∧ Fr [r] W w' := by
  refine (small_5 (n := 4) (ds_n fun _ => fixed4_nil) (ds_d (m := .int .u64) hf fun _ h => rFixed4_any h) (hide fun _ hS => hS.bel ((Below.refl _ _).drew)) (hide fun _ hS => in_cell h hS) (hide fun _ hS => in_cell h hS) (hide fun _ hS => in_cell h hS) (hide (in_box 5 4 h))).mono ?_
  rintro _ w ⟨⟨t, rfl, ht⟩, hS⟩
  exact ⟨by rw [ht rfl], in_end hS⟩
theorem nl_58 {r : Nat} {b : Option Addr} {lem cbp j : Nat} {ys : List Int} {f : Int} {W : World} (hf : f ≠ 0) (h : Cs r b lem cbp ys j f W) :
    Calls Try.prog 25 #[.pointer none, .pointer (some ⟨r, 0, none⟩), .agg #[.int .i64 5, .int .i64 8]] W fun R w' => R = .returned (.bool true) ∧ Cs r b lem cbp ys j f w' ∧ Fr [r] W w' := by
  refine (small_5 (n := 8) (ds_n fun _ => fixed8_nil) (ds_d (m := .int .u64) hf fun _ h => rFixed8_any h) (hide fun _ hS => hS.bel ((Below.refl _ _).drew)) (hide fun _ hS => in_cell h hS) (hide fun _ hS => in_cell h hS) (hide fun _ hS => in_cell h hS) (hide (in_box 5 8 h))).mono ?_
  rintro _ w ⟨⟨t, rfl, ht⟩, hS⟩
  exact ⟨by rw [ht rfl], in_end hS⟩
theorem nl_5n {r : Nat} {b : Option Addr} {lem cbp j : Nat} {ys : List Int} {f : Int} {W : World} {n : Int} (h4 : n ≠ 4) (h8 : n ≠ 8) (hf : f ≠ 0) (h : Cs r b lem cbp ys j f W) :
    Calls Try.prog 25 #[.pointer none, .pointer (some ⟨r, 0, none⟩), .agg #[.int .i64 5, .int .i64 n]] W fun R w' => R = .returned (.bool true) ∧ Cs r b lem cbp ys j f w' ∧ Fr [r] W w' := by
  refine (small_5 (n := n) (ds_n fun _ => fixedno_nil h4 h8) (ds_d (m := .int .u64) hf fun _ h => rFixedno_any h h4 h8) (hide fun _ hS => hS.bel ((Below.refl _ _).drew)) (hide fun _ hS => in_cell h hS) (hide fun _ hS => in_cell h hS) (hide fun _ hS => in_cell h hS) (hide (in_box 5 n h))).mono ?_
  rintro _ w ⟨⟨t, rfl, ht⟩, hS⟩
  exact ⟨by rw [ht rfl], in_end hS⟩
theorem nl_5 {r : Nat} {b : Option Addr} {lem cbp j : Nat} {ys : List Int} {f : Int} {n : Int} {W : World} (hf : f ≠ 0) (h : Cs r b lem cbp ys j f W) :
    Calls Try.prog 25 #[.pointer none, .pointer (some ⟨r, 0, none⟩), .agg #[.int .i64 5, .int .i64 n]] W fun R w' => R = .returned (.bool true) ∧ Cs r b lem cbp ys j f w' ∧ Fr [r] W w' := by
  by_cases h4 : n = 4
  · subst h4; exact nl_54 hf h
  · by_cases h8 : n = 8
    · subst h8; exact nl_58 hf h
    · exact nl_5n h4 h8 hf h
theorem tn_l {Wb : World} {r : Nat} {b : Option Addr} {lem cbp j : Nat} {ys : List Int} {f : Int} {m : Int} : ∀ w, In Wb r b lem cbp ys j f w → Calls Try.prog 52 #[.pointer none, .int .u32 m] w fun R w' => ∃ x1 x2 x3, R = .returned (.slice x1 x2 x3) ∧ (x1 = none ∧ x2 = 0 ∧ x3 = 0) ∧ In Wb r b lem cbp ys j f w' := fun w h => by
  refine take_nil.mono ?_
  rintro _ w' ⟨rfl, hF⟩
  exact ⟨_, _, _, rfl, ⟨rfl, rfl, rfl⟩, h.bel hF.nil⟩
theorem tn_r {Wb : World} {r : Nat} {b : Option Addr} {lem cbp j : Nat} {ys : List Int} {f : Int} {m : Nat} (hf : f ≠ 0) : ∀ x1 x2 x3 w, (x1 = none ∧ x2 = 0 ∧ x3 = 0) ∧ In Wb r b lem cbp ys j f w → Calls Try.prog 53 #[.pointer (some ⟨r, 0, none⟩), .int .u64 (m : Int)] w fun R w' => ∃ y1 y2 y3, R = .returned (.slice y1 y2 y3) ∧ Sl w' x1 x2 x3 [] ∧ Sl w' y1 y2 y3 [] ∧ In Wb r b lem cbp ys j f w' := fun x1 x2 x3 w h => by
  obtain ⟨⟨rfl, rfl, rfl⟩, h⟩ := h
  have := rTake_any (n := m) h.1
  rw [lift_e _ _ _ _ hf] at this
  refine this.mono ?_
  rintro _ w' ⟨y1, y2, y3, rfl, hS, _, hC, hF⟩
  exact ⟨y1, y2, y3, rfl, (nw_nil 0 _).1, hS, hC, h.2.trans hF⟩
theorem nl_6 {r : Nat} {b : Option Addr} {lem cbp j : Nat} {ys : List Int} {f : Int} {n : Int} {W : World} (hf : f ≠ 0) (h : Cs r b lem cbp ys j f W) :
    Calls Try.prog 25 #[.pointer none, .pointer (some ⟨r, 0, none⟩), .agg #[.int .i64 6, .int .i64 n]] W fun R w' => R = .returned (.bool true) ∧ Cs r b lem cbp ys j f w' ∧ Fr [r] W w' := by
  by_cases h0 : n < 0
  · refine (small_6lo h0 (J := fun x1 x2 x3 w => (x1 = none ∧ x2 = 0 ∧ x3 = 0) ∧ In (W.alloc (.cells #[.int .i64 6, .int .i64 n] 31)) r b lem cbp ys j f w) (zs := []) (us := []) (hide tn_l) (hide (tn_r (m := 0) hf)) (hide fun _ _ _ _ hJ => by obtain ⟨⟨rfl, rfl, rfl⟩, _⟩ := hJ; exact (nw_nil 0 _).1) (hide fun _ hS => hS.bel ((Below.refl _ _).drew)) (hide (in_box 6 n h))).mono ?_
    rintro _ w ⟨⟨t, rfl, ht⟩, hS⟩
    exact ⟨by rw [ht rfl], in_end hS⟩
  · by_cases h1 : n ≤ 2147483648
    · obtain ⟨m, rfl⟩ := Int.eq_ofNat_of_zero_le (show 0 ≤ n by omega)
      refine (small_6in (by omega) h1 (J := fun x1 x2 x3 w => (x1 = none ∧ x2 = 0 ∧ x3 = 0) ∧ In (W.alloc (.cells #[.int .i64 6, .int .i64 (m : Int)] 31)) r b lem cbp ys j f w) (zs := []) (us := []) (hide tn_l) (hide (tn_r (m := m) hf)) (hide fun _ _ _ _ hJ => by obtain ⟨⟨rfl, rfl, rfl⟩, _⟩ := hJ; exact (nw_nil 0 _).1) (hide fun _ hS => hS.bel ((Below.refl _ _).drew)) (hide (in_box 6 (m : Int) h))).mono ?_
      rintro _ w ⟨⟨t, rfl, ht⟩, hS⟩
      exact ⟨by rw [ht rfl], in_end hS⟩
    · refine (small_6hi (by omega) (J := fun x1 x2 x3 w => (x1 = none ∧ x2 = 0 ∧ x3 = 0) ∧ In (W.alloc (.cells #[.int .i64 6, .int .i64 n] 31)) r b lem cbp ys j f w) (zs := []) (us := []) (hide tn_l) (hide (tn_r (m := 2147483648) hf)) (hide fun _ _ _ _ hJ => by obtain ⟨⟨rfl, rfl, rfl⟩, _⟩ := hJ; exact (nw_nil 0 _).1) (hide fun _ hS => hS.bel ((Below.refl _ _).drew)) (hide (in_box 6 n h))).mono ?_
      rintro _ w ⟨⟨t, rfl, ht⟩, hS⟩
      exact ⟨by rw [ht rfl], in_end hS⟩
theorem nl_12 {r : Nat} {b : Option Addr} {lem cbp j : Nat} {ys : List Int} {f : Int} {n : Int} {W : World} (hf : f ≠ 0) (h : Cs r b lem cbp ys j f W) :
    Calls Try.prog 9 #[.pointer none, .pointer (some ⟨r, 0, none⟩), .agg #[.int .i64 12, .int .i64 n]] W fun R w' => R = .returned (.bool true) ∧ Cs r b lem cbp ys j f w' ∧ Fr [r] W w' := by
  refine (read_12 (q := r) (n := n) (x := (0, false)) (y := (0, false)) (I2 := In (W.alloc (.cells #[.int .i64 12, .int .i64 n] 31)) r b lem cbp ys j f) (ds_n fun _ => Global_nil) (hide fun w hS => ?_) (hide fun w o hS => hS.bel (below1 _ _)) (hide fun w hS => hS.1.1.lt) (hide (in_box 12 n h))).mono ?_
  · have := rGlobal_any hS.1
    rw [lift_e _ _ _ _ hf] at this
    refine this.mono ?_
    rintro _ w' ⟨rfl, hC, hF⟩
    exact ⟨rfl, ⟨hC, hS.2.trans hF⟩, hF⟩
  · rintro _ w ⟨⟨t, rfl, ht⟩, hS⟩
    exact ⟨by rw [ht rfl], in_end hS⟩
theorem nl_14 {r : Nat} {b : Option Addr} {lem cbp j : Nat} {ys : List Int} {f : Int} {n : Int} {W : World} (hf : f ≠ 0) (h : Cs r b lem cbp ys j f W) :
    Calls Try.prog 9 #[.pointer none, .pointer (some ⟨r, 0, none⟩), .agg #[.int .i64 14, .int .i64 n]] W fun R w' => R = .returned (.bool true) ∧ Cs r b lem cbp ys j f w' ∧ Fr [r] W w' := by
  refine (read_14 (q := r) (n := n) (x := ([], [])) (y := ([], [])) (I0 := In (W.alloc (.cells #[.int .i64 14, .int .i64 n] 31)) r b lem cbp ys j f) (I1 := In (W.alloc (.cells #[.int .i64 14, .int .i64 n] 31)) r b lem cbp ys j f) (I2 := In (W.alloc (.cells #[.int .i64 14, .int .i64 n] 31)) r b lem cbp ys j f) (hide fun w hS => Func_nil.mono ?_) (hide fun w hS => ?_) (hide fun w o hS => hS.bel (below1 _ _)) (hide h.1.lt) (hide fun w hS => by have := hS.2.size; simp at this; omega) (hide (in_box 14 n h))).mono ?_
  · rintro _ w' ⟨rfl, hF⟩
    exact ⟨_, _, _, _, _, _, rfl, nw_nil _ _, nw_nil _ _, hS.bel hF.nil⟩
  · have := rFunc_any hS.1
    rw [lift_e _ _ _ _ hf] at this
    refine this.mono ?_
    rintro _ w' ⟨x1, x2, x3, y1, y2, y3, rfl, hN1, hN2, hC, hF⟩
    exact ⟨x1, x2, x3, y1, y2, y3, rfl, hN1.1, hN2.1, ⟨hC, hS.2.trans hF⟩, hF⟩
  · rintro _ w ⟨⟨t, rfl, ht⟩, hS⟩
    exact ⟨by rw [ht rfl], in_end hS⟩
theorem ds_f {Wb : World} {r : Nat} {b : Option Addr} {lem cbp j : Nat} {ys : List Int} {f : Int} {x : Int} (hf : f ≠ 0) : Ds 24 #[.pointer (some ⟨r, 0, none⟩), .int .i64 x] (In Wb r b lem cbp ys j f) (In Wb r b lem cbp ys j f) (.tuple #[]) := hide fun w h => by
  have := rFail_any (x := x) h.1
  rw [if_neg hf] at this
  refine this.mono ?_
  rintro _ w' ⟨rfl, hC, hF⟩
  exact ⟨rfl, hC, h.2.trans hF⟩
theorem nl_15 {r : Nat} {b : Option Addr} {lem cbp j : Nat} {ys : List Int} {f : Int} {n : Int} {W : World} (hf : f ≠ 0) (h : Cs r b lem cbp ys j f W) :
    Calls Try.prog 9 #[.pointer none, .pointer (some ⟨r, 0, none⟩), .agg #[.int .i64 15, .int .i64 n]] W fun R w' => R = .returned (.bool true) ∧ Cs r b lem cbp ys j f w' ∧ Fr [r] W w' := by
  by_cases h0 : n ≤ 0
  · refine (read_15z h0 (ds_n fun _ => Fail_nil) (hide (in_box 15 n h))).mono ?_
    rintro _ w ⟨rfl, hS⟩
    exact ⟨rfl, in_end hS⟩
  · by_cases h1 : n ≤ 1000
    · refine (read_15in (by omega) h1 (ds_n fun _ => Fail_nil) (ds_f hf) (hide (in_box 15 n h))).mono ?_
      rintro _ w ⟨rfl, hS⟩
      exact ⟨rfl, in_end hS⟩
    · refine (read_15hi (by omega) (ds_n fun _ => Fail_nil) (ds_f hf) (hide (in_box 15 n h))).mono ?_
      rintro _ w ⟨rfl, hS⟩
      exact ⟨rfl, in_end hS⟩
theorem nl_small {r : Nat} {b : Option Addr} {lem cbp j : Nat} {ys : List Int} {f : Int} {K n : Int} {W : World} (h1 : 1 ≤ K) (h2 : K ≤ 10) (hf : f ≠ 0) (h : Cs r b lem cbp ys j f W) :
    Calls Try.prog 25 #[.pointer none, .pointer (some ⟨r, 0, none⟩), .agg #[.int .i64 K, .int .i64 n]] W fun R w' => R = .returned (.bool true) ∧ Cs r b lem cbp ys j f w' ∧ Fr [r] W w' := by
  have hK : K = 1 ∨ K = 2 ∨ K = 3 ∨ K = 4 ∨ K = 5 ∨ K = 6 ∨ K = 7 ∨ K = 8 ∨ K = 9 ∨ K = 10 := by omega
  rcases hK with rfl | rfl | rfl | rfl | rfl | rfl | rfl | rfl | rfl | rfl
  · exact nl_1 hf h
  · exact nl_2 hf h
  · exact nl_3 hf h
  · exact nl_4 hf h
  · exact nl_5 hf h
  · exact nl_6 hf h
  · exact nl_7 hf h
  · exact nl_8 hf h
  · exact nl_9 hf h
  · exact nl_10 hf h
theorem read_nil {r : Nat} {b : Option Addr} {lem cbp j : Nat} {ys : List Int} {f : Int} {K n : Int} {W : World} (hf : f ≠ 0) (h : Cs r b lem cbp ys j f W) :
    Calls Try.prog 9 #[.pointer none, .pointer (some ⟨r, 0, none⟩), .agg #[.int .i64 K, .int .i64 n]] W fun R w' => R = .returned (.bool true) ∧ Cs r b lem cbp ys j f w' ∧ Fr [r] W w' := by
  by_cases h1 : K < 1
  · refine (read_lo h1 (hide (in_box K n h))).mono ?_
    rintro _ w ⟨rfl, hS⟩
    exact ⟨rfl, in_end hS⟩
  · by_cases h3 : 15 < K
    · refine (read_hi h3 (hide (in_box K n h))).mono ?_
      rintro _ w ⟨rfl, hS⟩
      exact ⟨rfl, in_end hS⟩
    · by_cases h2 : K ≤ 10
      · refine (read_s (by omega) h2 (T := fun t => t = true) (I2 := In (W.alloc (.cells #[.int .i64 K, .int .i64 n] 31)) r b lem cbp ys j f) (hide fun w hS => (nl_small (by omega) h2 hf (n := n) hS.1).mono ?_) (hide (in_box K n h))).mono ?_
        · rintro _ w' ⟨rfl, hT, hF⟩
          exact ⟨⟨true, rfl, rfl⟩, hT, hS.2.trans hF⟩
        · rintro _ w ⟨⟨t, rfl, rfl⟩, hS⟩
          exact ⟨rfl, in_end hS⟩
      · have hK : K = 11 ∨ K = 12 ∨ K = 13 ∨ K = 14 ∨ K = 15 := by omega
        rcases hK with rfl | rfl | rfl | rfl | rfl
        · exact nl_11 hf h
        · exact nl_12 hf h
        · exact nl_13 hf h
        · exact nl_14 hf h
        · exact nl_15 hf h
end Go.Proofs.Ytphgljhlamjmgaa
