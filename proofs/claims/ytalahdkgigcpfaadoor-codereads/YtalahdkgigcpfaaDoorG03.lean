/- RdA, RdE. -/
import Derived.Test.YtalahdkgigcpfaaDoorG01
import Derived.WalkMore
namespace Go.Proofs.YtalahdkgigcpfaaDoor
open Go.RowKit

/-- A list of whole numbers, in new memory. -/
def LsI (f : Nat) (L : List Int) : Prop := Hid (∀ W, Calls Tryd.prog f #[] W fun r W' => ∃ b, r = .returned (.slice (some ⟨b, 0, none⟩) L.length L.length) ∧ Tab W' b (L.map (Value.int .i64)) ∧ Below W.heap.size W W')
def codL : List Int := [0, 1, 2, 3, 4, 5, 11, 12, 13, 14, 15, 16, 17, 26, 27, 32, 33, 34, 35, 36, 63, 64, 65, 66, 67, 68]
set_option maxHeartbeats 4000000 in
set_option maxRecDepth 100000 in
theorem codL_l : LsI 74 codL := by
  refine hide (fun W => ?_)
  go_enter Tryd.func74, Tryd.ntmps74
  go_wp2_with fail
  go_ret
  exact ⟨_, rfl, tab_alloc W (codL.map (Value.int .i64)) 3, below1 _ _⟩
def immL : List Int := [0, 0, 1, 1, 1, 12, 12, 2, 2, 3, 0, 4, 5, 0, 0, 4, 4, 4, 4, 4, 7, 7, 8, 9, 10, 11]
set_option maxHeartbeats 4000000 in
set_option maxRecDepth 100000 in
theorem immL_l : LsI 75 immL := by
  refine hide (fun W => ?_)
  go_enter Tryd.func75, Tryd.ntmps75
  go_wp2_with fail
  go_ret
  exact ⟨_, rfl, tab_alloc W (immL.map (Value.int .i64)) 3, below1 _ _⟩
end Go.Proofs.YtalahdkgigcpfaaDoor
namespace Go.Proofs.YtalahdkgigcpfaaDoor
open Go.RowKit

set_option maxHeartbeats 8000000 in
set_option maxRecDepth 100000 in
theorem rimm_c (op : Int) (k : Nat) (v : Int) (hk : k < 26) (h1 : codL.getD k 0 = op) (h2 : ∀ j, j < k → codL.getD j 0 ≠ op) (h3 : immL[k]? = some v) (W : World) : Calls Tryd.prog 58 #[.int .i64 op] W fun r W' => r = .returned (.int .i64 v) ∧ Below W.heap.size W W' := by
  have HL := unhide codL_l
  have HM := unhide immL_l
  have H1 := hide h1
  have H2 := hide h2
  have H3 := hide h3
  clear h1 h2 h3
  go_enter Tryd.func58, Tryd.ntmps58
  go_wp2_with (go_at_call 74; refine (HL _).mono ?_; rintro _ w1 ⟨b, rfl, hT, hb⟩)
  have HT := hide hT
  have HB := hide hb
  clear hT hb HL
  have hn : codL.length = 26 := rfl
  simp only [hn]
  go_loop [4] (fun v => ∃ i : Nat, i ≤ 26 ∧ v = .int .i64 (i : Int) ∧ ∀ j, j < i → codL.getD j 0 ≠ op) (fun v => 26 - (intOf v).toNat)
  case atStart => exact ⟨0, by omega, rfl, fun j h => absurd h (by omega)⟩
  case round =>
    obtain ⟨i, hi, rfl, hno⟩ := hrel
    have HN := hide hno
    clear hno
    by_cases hc : i < 26
    · have hcell := unhide HT i (.int .i64 (codL.getD i 0)) (by rw [List.getElem?_map, List.getElem?_eq_getElem (show i < codL.length from hc)]; simp [List.getD_eq_getElem?_getD, List.getElem?_eq_getElem (show i < codL.length from hc)])
      have ei : IntKind.i64.wrap ((i : Int) + 1) = (i : Int) + 1 := i64_id (by omega) (by omega)
      obtain ⟨z, hz⟩ : ∃ z, codL.getD i 0 = z := ⟨_, rfl⟩
      rw [hz] at hcell
      have HE := hide hz
      clear hz
      by_cases he : z = op
      · have he' : (z == op) = true := by simp [he]
        obtain rfl : i = k := by
          rcases Nat.lt_trichotomy i k with h | h | h
          · exact absurd ((unhide HE).trans he) (unhide H2 i h)
          · exact h
          · exact absurd (unhide H1) (unhide HN k h)
        go_wp2_with (go_at_call 75; refine (HM _).mono ?_; rintro _ w2 ⟨c, rfl, hT2, hb2⟩; have hcell2 := hT2 i (.int .i64 v) (by rw [List.getElem?_map, unhide H3]; rfl); have hn2 : immL.length = 26 := rfl; simp only [hn2])
        go_ret
        exact ⟨rfl, bthen (unhide HB) hb2⟩
      · have he' : (z == op) = false := by simp [he]
        go_wp2_with fail
        refine ⟨⟨i + 1, by omega, by go_num, fun j hj => ?_⟩, by simp [intOf]; omega⟩
        by_cases hji : j = i
        · subst hji; intro e; exact he ((unhide HE).symm.trans e)
        · exact unhide HN j (by omega)
    · obtain rfl : i = 26 := by omega
      exact absurd (unhide H1) (unhide HN k hk)
set_option maxHeartbeats 8000000 in
set_option maxRecDepth 100000 in
theorem rimm_a (op : Int) (HC : ∀ j, j < 26 → codL.getD j 0 ≠ op) (g1 : 40 ≤ op) (g2 : op ≤ 62) (W : World) : Calls Tryd.prog 58 #[.int .i64 op] W fun r W' => r = .returned (.int .i64 6) ∧ Below W.heap.size W W' := by
  have HL := unhide codL_l
  replace HC := hide HC
  go_enter Tryd.func58, Tryd.ntmps58
  go_wp2_with (go_at_call 74; refine (HL _).mono ?_; rintro _ w1 ⟨b, rfl, hT, hb⟩)
  have HT := hide hT
  have HB := hide hb
  clear hT hb HL
  have hn : codL.length = 26 := rfl
  simp only [hn]
  go_loop [4] (fun v => ∃ i : Nat, i ≤ 26 ∧ v = .int .i64 (i : Int) ∧ ∀ j, j < i → codL.getD j 0 ≠ op) (fun v => 26 - (intOf v).toNat)
  case atStart => exact ⟨0, by omega, rfl, fun j h => absurd h (by omega)⟩
  case round =>
    obtain ⟨i, hi, rfl, hno⟩ := hrel
    have HN := hide hno
    clear hno
    by_cases hc : i < 26
    · have hcell := unhide HT i (.int .i64 (codL.getD i 0)) (by rw [List.getElem?_map, List.getElem?_eq_getElem (show i < codL.length from hc)]; simp [List.getD_eq_getElem?_getD, List.getElem?_eq_getElem (show i < codL.length from hc)])
      have ei : IntKind.i64.wrap ((i : Int) + 1) = (i : Int) + 1 := i64_id (by omega) (by omega)
      obtain ⟨z, hz⟩ : ∃ z, codL.getD i 0 = z := ⟨_, rfl⟩
      rw [hz] at hcell
      have HE := hide hz
      clear hz
      by_cases he : z = op
      · have he' : (z == op) = true := by simp [he]
        exact absurd ((unhide HE).trans he) (unhide HC i hc)
      · have he' : (z == op) = false := by simp [he]
        go_wp2_with fail
        refine ⟨⟨i + 1, by omega, by go_num, fun j hj => ?_⟩, by simp [intOf]; omega⟩
        by_cases hji : j = i
        · subst hji; intro e; exact he ((unhide HE).symm.trans e)
        · exact unhide HN j (by omega)
    · obtain rfl : i = 26 := by omega
      go_wp2_with fail
      go_ret
      exact ⟨rfl, unhide HB⟩
set_option maxHeartbeats 8000000 in
set_option maxRecDepth 100000 in
theorem rimm_0 (op : Int) (x : ByteArray) (hx : x.toList.isEmpty = false) (HC : ∀ j, j < 26 → codL.getD j 0 ≠ op) (g : op < 40 ∨ 62 < op) (HX : Ct 76 #[.int .i64 op] (.string x)) (W : World) : Calls Tryd.prog 58 #[.int .i64 op] W fun r W' => r = .returned (.int .i64 0) ∧ Below W.heap.size W W' := by
  have HL := unhide codL_l
  replace HC := hide HC
  go_enter Tryd.func58, Tryd.ntmps58
  go_wp2_with (go_at_call 74; refine (HL _).mono ?_; rintro _ w1 ⟨b, rfl, hT, hb⟩)
  have HT := hide hT
  have HB := hide hb
  clear hT hb HL
  have hn : codL.length = 26 := rfl
  simp only [hn]
  go_loop [4] (fun v => ∃ i : Nat, i ≤ 26 ∧ v = .int .i64 (i : Int) ∧ ∀ j, j < i → codL.getD j 0 ≠ op) (fun v => 26 - (intOf v).toNat)
  case atStart => exact ⟨0, by omega, rfl, fun j h => absurd h (by omega)⟩
  case round =>
    obtain ⟨i, hi, rfl, hno⟩ := hrel
    have HN := hide hno
    clear hno
    by_cases hc : i < 26
    · have hcell := unhide HT i (.int .i64 (codL.getD i 0)) (by rw [List.getElem?_map, List.getElem?_eq_getElem (show i < codL.length from hc)]; simp [List.getD_eq_getElem?_getD, List.getElem?_eq_getElem (show i < codL.length from hc)])
      have ei : IntKind.i64.wrap ((i : Int) + 1) = (i : Int) + 1 := i64_id (by omega) (by omega)
      obtain ⟨z, hz⟩ : ∃ z, codL.getD i 0 = z := ⟨_, rfl⟩
      rw [hz] at hcell
      have HE := hide hz
      clear hz
      by_cases he : z = op
      · have he' : (z == op) = true := by simp [he]
        exact absurd ((unhide HE).trans he) (unhide HC i hc)
      · have he' : (z == op) = false := by simp [he]
        go_wp2_with fail
        refine ⟨⟨i + 1, by omega, by go_num, fun j hj => ?_⟩, by simp [intOf]; omega⟩
        by_cases hji : j = i
        · subst hji; intro e; exact he ((unhide HE).symm.trans e)
        · exact unhide HN j (by omega)
    · obtain rfl : i = 26 := by omega
      rcases g with g | g
      · have g1 : ¬ 40 ≤ op := by omega
        go_wp2_with (go_at_call 76; refine ((unhide HX) _).mono ?_; rintro _ w2 ⟨rfl, hb2⟩)
        go_ret
        exact ⟨rfl, bthen (unhide HB) hb2⟩
      · have g1 : 40 ≤ op := by omega
        have g2 : ¬ op ≤ 62 := by omega
        go_wp2_with (go_at_call 76; refine ((unhide HX) _).mono ?_; rintro _ w2 ⟨rfl, hb2⟩)
        go_ret
        exact ⟨rfl, bthen (unhide HB) hb2⟩
set_option maxHeartbeats 8000000 in
set_option maxRecDepth 100000 in
theorem rimm_m (op : Int) (x : ByteArray) (hx : x.toList.isEmpty = true) (HC : ∀ j, j < 26 → codL.getD j 0 ≠ op) (g : op < 40 ∨ 62 < op) (HX : Ct 76 #[.int .i64 op] (.string x)) (W : World) : Calls Tryd.prog 58 #[.int .i64 op] W fun r W' => r = .returned (.int .i64 (-1)) ∧ Below W.heap.size W W' := by
  have HL := unhide codL_l
  replace HC := hide HC
  go_enter Tryd.func58, Tryd.ntmps58
  go_wp2_with (go_at_call 74; refine (HL _).mono ?_; rintro _ w1 ⟨b, rfl, hT, hb⟩)
  have HT := hide hT
  have HB := hide hb
  clear hT hb HL
  have hn : codL.length = 26 := rfl
  simp only [hn]
  go_loop [4] (fun v => ∃ i : Nat, i ≤ 26 ∧ v = .int .i64 (i : Int) ∧ ∀ j, j < i → codL.getD j 0 ≠ op) (fun v => 26 - (intOf v).toNat)
  case atStart => exact ⟨0, by omega, rfl, fun j h => absurd h (by omega)⟩
  case round =>
    obtain ⟨i, hi, rfl, hno⟩ := hrel
    have HN := hide hno
    clear hno
    by_cases hc : i < 26
    · have hcell := unhide HT i (.int .i64 (codL.getD i 0)) (by rw [List.getElem?_map, List.getElem?_eq_getElem (show i < codL.length from hc)]; simp [List.getD_eq_getElem?_getD, List.getElem?_eq_getElem (show i < codL.length from hc)])
      have ei : IntKind.i64.wrap ((i : Int) + 1) = (i : Int) + 1 := i64_id (by omega) (by omega)
      obtain ⟨z, hz⟩ : ∃ z, codL.getD i 0 = z := ⟨_, rfl⟩
      rw [hz] at hcell
      have HE := hide hz
      clear hz
      by_cases he : z = op
      · have he' : (z == op) = true := by simp [he]
        exact absurd ((unhide HE).trans he) (unhide HC i hc)
      · have he' : (z == op) = false := by simp [he]
        go_wp2_with fail
        refine ⟨⟨i + 1, by omega, by go_num, fun j hj => ?_⟩, by simp [intOf]; omega⟩
        by_cases hji : j = i
        · subst hji; intro e; exact he ((unhide HE).symm.trans e)
        · exact unhide HN j (by omega)
    · obtain rfl : i = 26 := by omega
      rcases g with g | g
      · have g1 : ¬ 40 ≤ op := by omega
        go_wp2_with (go_at_call 76; refine ((unhide HX) _).mono ?_; rintro _ w2 ⟨rfl, hb2⟩)
        go_ret
        exact ⟨rfl, bthen (unhide HB) hb2⟩
      · have g1 : 40 ≤ op := by omega
        have g2 : ¬ op ≤ 62 := by omega
        go_wp2_with (go_at_call 76; refine ((unhide HX) _).mono ?_; rintro _ w2 ⟨rfl, hb2⟩)
        go_ret
        exact ⟨rfl, bthen (unhide HB) hb2⟩

end Go.Proofs.YtalahdkgigcpfaaDoor
