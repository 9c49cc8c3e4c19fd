/- OpcodeTells of anything. -/
import Derived.Test.YtkpdanjfdcoldaaDoorLawT
import Derived.Test.YtkpdanjfdcoldaaDoorAcB
import Derived.Test.YtkpdanjfdcoldaaDoorAcS
import Derived.Test.YtkpdanjfdcoldaaDoorRdE
import Derived.Test.YtkpdanjfdcoldaaDoorKnA
import Derived.Test.YtkpdanjfdcoldaaDoorImB
import Derived.Test.YtkpdanjfdcoldaaDoorImC
import Derived.Test.YtkpdanjfdcoldaaDoorImD
namespace Go.Proofs.YtkpdanjfdcoldaaDoor
open Go.RowKit

theorem imm_cod (k : Nat) (hk : k < 26) : Cm 6 #[.int .i64 (codL.getD k 0)] (.tuple #[.int .i64 (immL.getD k 0), .bool true]) :=
  match k, hk with
  | 0, _ => imm_0.m
  | 1, _ => imm_1.m
  | 2, _ => imm_2.m
  | 3, _ => imm_3.m
  | 4, _ => imm_4.m
  | 5, _ => imm_5.m
  | 6, _ => imm_11.m
  | 7, _ => imm_12.m
  | 8, _ => imm_13.m
  | 9, _ => imm_14.m
  | 10, _ => imm_15.m
  | 11, _ => imm_16.m
  | 12, _ => imm_17.m
  | 13, _ => imm_26.m
  | 14, _ => imm_27.m
  | 15, _ => imm_32.m
  | 16, _ => imm_33.m
  | 17, _ => imm_34.m
  | 18, _ => imm_35.m
  | 19, _ => imm_36.m
  | 20, _ => imm_63.m
  | 21, _ => imm_64.m
  | 22, _ => imm_n 65 8 true rfl rfl rfl rfl rfl rfl rfl rfl rfl rfl rfl rfl rfl rfl rfl rfl rfl rfl rfl rfl rfl rfl immv_65.m
  | 23, _ => imm_n 66 9 true rfl rfl rfl rfl rfl rfl rfl rfl rfl rfl rfl rfl rfl rfl rfl rfl rfl rfl rfl rfl rfl rfl immv_66.m
  | 24, _ => imm_n 67 10 true rfl rfl rfl rfl rfl rfl rfl rfl rfl rfl rfl rfl rfl rfl rfl rfl rfl rfl rfl rfl rfl rfl immv_67.m
  | 25, _ => imm_n 68 11 true rfl rfl rfl rfl rfl rfl rfl rfl rfl rfl rfl rfl rfl rfl rfl rfl rfl rfl rfl rfl rfl rfl immv_68.m
  | _ + 26, h => absurd h (by omega)
theorem imm_pos : ∀ k, k < 26 → 0 ≤ immL.getD k 0 := by decide
theorem cod_far : ∀ k, k < 26 → codL.getD k 0 < 40 ∨ 62 < codL.getD k 0 := by decide
theorem ne_c {op c : Int} (h : c ≠ op) : (op == c) = false := by simp; exact fun e => h e.symm
theorem acc_any (op : Int) (h1 : 40 ≤ op) (h2 : op ≤ 62) : ∃ ty m sg st, 0 < m ∧ Cl 10 #[.int .i64 op] (.tuple #[.agg #[.int .u8 ty, .int .i64 m, .bool sg, .bool st], .bool true]) ∧ Ct 11 #[.int .i64 op] (.tuple #[.int .u8 ty, .int .i64 m, .bool sg, .bool st]) := by
  have h : op = 40 ∨ op = 41 ∨ op = 42 ∨ op = 43 ∨ op = 44 ∨ op = 45 ∨ op = 46 ∨ op = 47 ∨ op = 48 ∨ op = 49 ∨ op = 50 ∨ op = 51 ∨ op = 52 ∨ op = 53 ∨ op = 54 ∨ op = 55 ∨ op = 56 ∨ op = 57 ∨ op = 58 ∨ op = 59 ∨ op = 60 ∨ op = 61 ∨ op = 62 := by omega
  rcases h with rfl | rfl | rfl | rfl | rfl | rfl | rfl | rfl | rfl | rfl | rfl | rfl | rfl | rfl | rfl | rfl | rfl | rfl | rfl | rfl | rfl | rfl | rfl
  · exact ⟨_, _, _, _, by decide, acc_40, racc_40⟩
  · exact ⟨_, _, _, _, by decide, acc_41, racc_41⟩
  · exact ⟨_, _, _, _, by decide, acc_42, racc_42⟩
  · exact ⟨_, _, _, _, by decide, acc_43, racc_43⟩
  · exact ⟨_, _, _, _, by decide, acc_44, racc_44⟩
  · exact ⟨_, _, _, _, by decide, acc_45, racc_45⟩
  · exact ⟨_, _, _, _, by decide, acc_46, racc_46⟩
  · exact ⟨_, _, _, _, by decide, acc_47, racc_47⟩
  · exact ⟨_, _, _, _, by decide, acc_48, racc_48⟩
  · exact ⟨_, _, _, _, by decide, acc_49, racc_49⟩
  · exact ⟨_, _, _, _, by decide, acc_50, racc_50⟩
  · exact ⟨_, _, _, _, by decide, acc_51, racc_51⟩
  · exact ⟨_, _, _, _, by decide, acc_52, racc_52⟩
  · exact ⟨_, _, _, _, by decide, acc_53, racc_53⟩
  · exact ⟨_, _, _, _, by decide, acc_54, racc_54⟩
  · exact ⟨_, _, _, _, by decide, acc_55, racc_55⟩
  · exact ⟨_, _, _, _, by decide, acc_56, racc_56⟩
  · exact ⟨_, _, _, _, by decide, acc_57, racc_57⟩
  · exact ⟨_, _, _, _, by decide, acc_58, racc_58⟩
  · exact ⟨_, _, _, _, by decide, acc_59, racc_59⟩
  · exact ⟨_, _, _, _, by decide, acc_60, racc_60⟩
  · exact ⟨_, _, _, _, by decide, acc_61, racc_61⟩
  · exact ⟨_, _, _, _, by decide, acc_62, racc_62⟩
attribute [local irreducible] nm kT
theorem tells_any (W : World) (m : Mk W) (l : Ml W) (op : Int) (hm : op ≤ 9223372036854775807) : Calls Tryd.prog 3 #[.int .i64 op] W fun r W' => r = .returned (.bool true) ∧ Below W.heap.size W W' := by
  rcases first_at op 26 with ⟨k, h1, h2, h3⟩ | h
  · have HI := imm_cod k h1
    have hf := cod_far k h1
    rw [h2] at HI hf
    exact tells_s op _ _ 0 0 true false false false (bs (nm op)) HI (hide (rimm_c op k _ h1 h2 h3 (get_at immL 0 k h1))) (.inl ⟨imm_pos k h1, rfl, rfl⟩) (name_any op) (rname_any op) (hide fun W _ => unhide (access_no op hf) W) (racc_no op hf) (.inr ⟨rfl, rfl⟩) W m l
  · have hs := h
    have n0 : (0 : Int) ≠ op := h 0 (by omega)
    have n1 : (1 : Int) ≠ op := h 1 (by omega)
    have n2 : (2 : Int) ≠ op := h 2 (by omega)
    have n3 : (3 : Int) ≠ op := h 3 (by omega)
    have n4 : (4 : Int) ≠ op := h 4 (by omega)
    have n5 : (5 : Int) ≠ op := h 5 (by omega)
    have n11 : (11 : Int) ≠ op := h 6 (by omega)
    have n12 : (12 : Int) ≠ op := h 7 (by omega)
    have n13 : (13 : Int) ≠ op := h 8 (by omega)
    have n14 : (14 : Int) ≠ op := h 9 (by omega)
    have n15 : (15 : Int) ≠ op := h 10 (by omega)
    have n16 : (16 : Int) ≠ op := h 11 (by omega)
    have n17 : (17 : Int) ≠ op := h 12 (by omega)
    have n26 : (26 : Int) ≠ op := h 13 (by omega)
    have n27 : (27 : Int) ≠ op := h 14 (by omega)
    have n32 : (32 : Int) ≠ op := h 15 (by omega)
    have n33 : (33 : Int) ≠ op := h 16 (by omega)
    have n34 : (34 : Int) ≠ op := h 17 (by omega)
    have n35 : (35 : Int) ≠ op := h 18 (by omega)
    have n36 : (36 : Int) ≠ op := h 19 (by omega)
    have n63 : (63 : Int) ≠ op := h 20 (by omega)
    have n64 : (64 : Int) ≠ op := h 21 (by omega)
    have n65 : (65 : Int) ≠ op := h 22 (by omega)
    have n66 : (66 : Int) ≠ op := h 23 (by omega)
    have n67 : (67 : Int) ≠ op := h 24 (by omega)
    have n68 : (68 : Int) ≠ op := h 25 (by omega)
    by_cases g : 40 ≤ op ∧ op ≤ 62
    · obtain ⟨ty, mm, sg, st, hp, HX, HY⟩ := acc_any op g.1 g.2
      exact tells_s op 6 6 ty mm true true sg st (bs (nm op)) (imm_n op 6 true (ne_c n0) (ne_c n1) (ne_c n2) (ne_c n3) (ne_c n4) (ne_c n5) (ne_c n11) (ne_c n12) (ne_c n13) (ne_c n14) (ne_c n15) (ne_c n16) (ne_c n17) (ne_c n26) (ne_c n27) (ne_c n32) (ne_c n33) (ne_c n34) (ne_c n35) (ne_c n36) (ne_c n63) (ne_c n64) (immv_a op g.1 g.2).m) (hide (rimm_a op hs g.1 g.2)) (.inl ⟨by omega, rfl, rfl⟩) (name_any op) (rname_any op) HX HY (.inl ⟨hp, rfl⟩) W m l
    · have hf : op < 40 ∨ 62 < op := by omega
      obtain ⟨c, HK⟩ := kind_any op hm
      have HI := imm_n op 0 (numB op) (ne_c n0) (ne_c n1) (ne_c n2) (ne_c n3) (ne_c n4) (ne_c n5) (ne_c n11) (ne_c n12) (ne_c n13) (ne_c n14) (ne_c n15) (ne_c n16) (ne_c n17) (ne_c n26) (ne_c n27) (ne_c n32) (ne_c n33) (ne_c n34) (ne_c n35) (ne_c n36) (ne_c n63) (ne_c n64) (immv_n op _ _ _ _ (by omega) HK)
      have HX : Cl 10 #[.int .i64 op] (.tuple #[.agg #[.int .u8 0, .int .i64 0, .bool false, .bool false], .bool false]) := hide fun W _ => unhide (access_no op hf) W
      cases hb : numB op with
      | true =>
        rw [hb] at HI
        have hq := okK_at hb
        unfold okK at hq
        simp only [Bool.and_eq_true, decide_eq_true_eq] at hq
        have hn : nm op ≠ [] := fun e => by have := hq.1.2; rw [e] at this; simp at this
        exact tells_s op 0 0 0 0 true false false false (bs (nm op)) HI (hide (rimm_0 op (bs (nm op)) (by simp [hn, bs, Lib.toList_data]) hs hf (r14_any op (by unfold numB at hb; simpa using hb)))) (.inl ⟨by omega, rfl, rfl⟩) (name_any op) (rname_any op) HX (racc_no op hf) (.inr ⟨rfl, rfl⟩) W m l
      | false =>
        rw [hb] at HI
        exact tells_s op 0 (-1) 0 0 false false false false (bs (nm op)) HI (hide (rimm_m op (bs []) (by simp [bs, Lib.toList_data]) hs hf (rnm_no (op := op) (by unfold numB at hb; simp at hb; omega)))) (.inr ⟨rfl, rfl, rfl⟩) (name_any op) (rname_any op) HX (racc_no op hf) (.inr ⟨rfl, rfl⟩) W m l

end Go.Proofs.YtkpdanjfdcoldaaDoor
