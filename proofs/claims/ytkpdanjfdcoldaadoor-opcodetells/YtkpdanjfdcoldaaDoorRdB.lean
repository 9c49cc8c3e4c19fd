/- The reference's Name, by ways. -/
import Derived.Test.YtkpdanjfdcoldaaDoorRdA
import Derived.WalkMore
namespace Go.Proofs.YtkpdanjfdcoldaaDoor
open Go.RowKit

set_option maxHeartbeats 8000000 in
set_option maxRecDepth 100000 in
theorem rname_c (op : Int) (k : Nat) (x : ByteArray) (hk : k < 26) (h1 : codL.getD k 0 = op) (h2 : ∀ j, j < k → codL.getD j 0 ≠ op) (h3 : conL[k]? = some x) (W : World) : Calls Tryd.prog 9 #[.int .i64 op] W fun r W' => r = .returned (.string x) ∧ Below W.heap.size W W' := by
  have HL := unhide codL_l
  have HM := unhide conL_l
  have H1 := hide h1
  have H2 := hide h2
  have H3 := hide h3
  clear h1 h2 h3
  go_enter Tryd.func9, Tryd.ntmps9
  go_wp2_with (go_at_call 14; refine (HL _).mono ?_; rintro _ w1 ⟨b, rfl, hT, hb⟩)
  have HT := hide hT
  have HB := hide hb
  clear hT hb HL
  have hn : codL.length = 26 := rfl
  simp only [hn]
  go_loop [4] (fun v => ∃ i : Nat, i ≤ 26 ∧ v = .int .i64 (i : Int) ∧ ∀ j, j < i → codL.getD j 0 ≠ op) (fun v => 26 - (intOf v).toNat)
  case atStart => exact ⟨0, by omega, rfl, fun j h => absurd h (by omega)⟩
  case round =>
    obtain ⟨i, hi, rfl, hno⟩ := hrel
    have HN := hide hno
    clear hno
    by_cases hc : i < 26
    · have hcell := unhide HT i (.int .i64 (codL.getD i 0)) (by rw [List.getElem?_map, List.getElem?_eq_getElem (show i < codL.length from hc)]; simp [List.getD_eq_getElem?_getD, List.getElem?_eq_getElem (show i < codL.length from hc)])
      have ei : IntKind.i64.wrap ((i : Int) + 1) = (i : Int) + 1 := i64_id (by omega) (by omega)
      obtain ⟨z, hz⟩ : ∃ z, codL.getD i 0 = z := ⟨_, rfl⟩
      rw [hz] at hcell
      have HE := hide hz
      clear hz
      by_cases he : z = op
      · have he' : (z == op) = true := by simp [he]
        obtain rfl : i = k := by
          rcases Nat.lt_trichotomy i k with h | h | h
          · exact absurd ((unhide HE).trans he) (unhide H2 i h)
          · exact h
          · exact absurd (unhide H1) (unhide HN k h)
        go_wp2_with (go_at_call 19; refine (HM _).mono ?_; rintro _ w2 ⟨c, rfl, hT2, hb2⟩; have hcell2 := hT2 i (.string x) (by rw [List.getElem?_map, unhide H3]; rfl); have hn2 : conL.length = 26 := rfl; simp only [hn2])
        go_ret
        exact ⟨rfl, bthen (unhide HB) hb2⟩
      · have he' : (z == op) = false := by simp [he]
        go_wp2_with fail
        refine ⟨⟨i + 1, by omega, by go_num, fun j hj => ?_⟩, by simp [intOf]; omega⟩
        by_cases hji : j = i
        · subst hji; intro e; exact he ((unhide HE).symm.trans e)
        · exact unhide HN j (by omega)
    · obtain rfl : i = 26 := by omega
      exact absurd (unhide H1) (unhide HN k hk)
set_option maxHeartbeats 8000000 in
set_option maxRecDepth 100000 in
theorem rname_a (op : Int) (x : ByteArray) (HC : ∀ j, j < 26 → codL.getD j 0 ≠ op) (g1 : 40 ≤ op) (g2 : op ≤ 62) (k : Nat) (hk : (k : Int) = op - 40) (h3 : accL[k]? = some x) (W : World) : Calls Tryd.prog 9 #[.int .i64 op] W fun r W' => r = .returned (.string x) ∧ Below W.heap.size W W' := by
  have HL := unhide codL_l
  have HM := unhide accL_l
  have H3 := hide h3
  replace HC := hide HC
  have ek : IntKind.i64.wrap (op - 40) = (k : Int) := by rw [i64_id (by omega) (by omega), hk]
  have hk3 : (k : Int) < 23 := by omega
  clear h3 hk
  go_enter Tryd.func9, Tryd.ntmps9
  go_wp2_with (go_at_call 14; refine (HL _).mono ?_; rintro _ w1 ⟨b, rfl, hT, hb⟩)
  have HT := hide hT
  have HB := hide hb
  clear hT hb HL
  have hn : codL.length = 26 := rfl
  simp only [hn]
  go_loop [4] (fun v => ∃ i : Nat, i ≤ 26 ∧ v = .int .i64 (i : Int) ∧ ∀ j, j < i → codL.getD j 0 ≠ op) (fun v => 26 - (intOf v).toNat)
  case atStart => exact ⟨0, by omega, rfl, fun j h => absurd h (by omega)⟩
  case round =>
    obtain ⟨i, hi, rfl, hno⟩ := hrel
    have HN := hide hno
    clear hno
    by_cases hc : i < 26
    · have hcell := unhide HT i (.int .i64 (codL.getD i 0)) (by rw [List.getElem?_map, List.getElem?_eq_getElem (show i < codL.length from hc)]; simp [List.getD_eq_getElem?_getD, List.getElem?_eq_getElem (show i < codL.length from hc)])
      have ei : IntKind.i64.wrap ((i : Int) + 1) = (i : Int) + 1 := i64_id (by omega) (by omega)
      obtain ⟨z, hz⟩ : ∃ z, codL.getD i 0 = z := ⟨_, rfl⟩
      rw [hz] at hcell
      have HE := hide hz
      clear hz
      by_cases he : z = op
      · have he' : (z == op) = true := by simp [he]
        exact absurd ((unhide HE).trans he) (unhide HC i hc)
      · have he' : (z == op) = false := by simp [he]
        go_wp2_with fail
        refine ⟨⟨i + 1, by omega, by go_num, fun j hj => ?_⟩, by simp [intOf]; omega⟩
        by_cases hji : j = i
        · subst hji; intro e; exact he ((unhide HE).symm.trans e)
        · exact unhide HN j (by omega)
    · obtain rfl : i = 26 := by omega
      go_wp2_with (go_at_call 20; refine (HM _).mono ?_; rintro _ w2 ⟨c, rfl, hT2, hb2⟩; have hcell2 := hT2 k (.string x) (by rw [List.getElem?_map, unhide H3]; rfl); have hn2 : accL.length = 23 := rfl; simp only [hn2])
      go_ret
      exact ⟨rfl, bthen (unhide HB) hb2⟩
set_option maxHeartbeats 8000000 in
set_option maxRecDepth 100000 in
theorem rname_n (op : Int) (x : ByteArray) (HC : ∀ j, j < 26 → codL.getD j 0 ≠ op) (g : op < 40 ∨ 62 < op) (HX : Ct 16 #[.int .i64 op] (.string x)) (W : World) : Calls Tryd.prog 9 #[.int .i64 op] W fun r W' => r = .returned (.string x) ∧ Below W.heap.size W W' := by
  have HL := unhide codL_l
  replace HC := hide HC
  go_enter Tryd.func9, Tryd.ntmps9
  go_wp2_with (go_at_call 14; refine (HL _).mono ?_; rintro _ w1 ⟨b, rfl, hT, hb⟩)
  have HT := hide hT
  have HB := hide hb
  clear hT hb HL
  have hn : codL.length = 26 := rfl
  simp only [hn]
  go_loop [4] (fun v => ∃ i : Nat, i ≤ 26 ∧ v = .int .i64 (i : Int) ∧ ∀ j, j < i → codL.getD j 0 ≠ op) (fun v => 26 - (intOf v).toNat)
  case atStart => exact ⟨0, by omega, rfl, fun j h => absurd h (by omega)⟩
  case round =>
    obtain ⟨i, hi, rfl, hno⟩ := hrel
    have HN := hide hno
    clear hno
    by_cases hc : i < 26
    · have hcell := unhide HT i (.int .i64 (codL.getD i 0)) (by rw [List.getElem?_map, List.getElem?_eq_getElem (show i < codL.length from hc)]; simp [List.getD_eq_getElem?_getD, List.getElem?_eq_getElem (show i < codL.length from hc)])
      have ei : IntKind.i64.wrap ((i : Int) + 1) = (i : Int) + 1 := i64_id (by omega) (by omega)
      obtain ⟨z, hz⟩ : ∃ z, codL.getD i 0 = z := ⟨_, rfl⟩
      rw [hz] at hcell
      have HE := hide hz
      clear hz
      by_cases he : z = op
      · have he' : (z == op) = true := by simp [he]
        exact absurd ((unhide HE).trans he) (unhide HC i hc)
      · have he' : (z == op) = false := by simp [he]
        go_wp2_with fail
        refine ⟨⟨i + 1, by omega, by go_num, fun j hj => ?_⟩, by simp [intOf]; omega⟩
        by_cases hji : j = i
        · subst hji; intro e; exact he ((unhide HE).symm.trans e)
        · exact unhide HN j (by omega)
    · obtain rfl : i = 26 := by omega
      rcases g with g | g
      · have g1 : ¬ 40 ≤ op := by omega
        go_wp2_with (go_at_call 16; refine ((unhide HX) _).mono ?_; rintro _ w2 ⟨rfl, hb2⟩)
        go_ret
        exact ⟨rfl, bthen (unhide HB) hb2⟩
      · have g1 : 40 ≤ op := by omega
        have g2 : ¬ op ≤ 62 := by omega
        go_wp2_with (go_at_call 16; refine ((unhide HX) _).mono ?_; rintro _ w2 ⟨rfl, hb2⟩)
        go_ret
        exact ⟨rfl, bthen (unhide HB) hb2⟩

end Go.Proofs.YtkpdanjfdcoldaaDoor
