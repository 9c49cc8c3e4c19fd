/- Lists of names. -/
import Derived.Test.YtpbgpdmffejdgaaGreatDoorNuB
namespace Go.Proofs.YtpbgpdmffejdgaaGreatDoor
open Go.RowKit

theorem tab_alloc (W : World) (L : List Value) (t : TypeId) : Tab (W.alloc (.cells L.toArray t)) W.heap.size L := fun j v hv => by
  rw [cell_of_row (W.alloc (.cells L.toArray t)) W.heap.size j L.toArray t (0, 0) (heap_alloc_new _ _)]
  simpa using hv
/-- A list of names, in new memory. -/
def Lst (f : Nat) (args : Array Value) (L : List ByteArray) : Prop := Hid (∀ W, Calls Tryz.prog f args W fun r W' => ∃ b, r = .returned (.slice (some ⟨b, 0, none⟩) L.length L.length) ∧ Tab W' b (L.map Value.string) ∧ Below W.heap.size W W')
def relL : List ByteArray := [⟨#[101, 113, 122]⟩, ⟨#[101, 113]⟩, ⟨#[110, 101]⟩, ⟨#[108, 116, 95, 115]⟩, ⟨#[108, 116, 95, 117]⟩, ⟨#[103, 116, 95, 115]⟩, ⟨#[103, 116, 95, 117]⟩, ⟨#[108, 101, 95, 115]⟩, ⟨#[108, 101, 95, 117]⟩, ⟨#[103, 101, 95, 115]⟩, ⟨#[103, 101, 95, 117]⟩]
set_option maxHeartbeats 4000000 in
set_option maxRecDepth 100000 in
theorem relL_l : Lst 29 #[] relL := by
  refine hide (fun W => ?_)
  go_enter Tryz.func29, Tryz.ntmps29
  go_wp2_with fail
  go_ret
  exact ⟨_, rfl, tab_alloc W (relL.map Value.string) 9, below1 _ _⟩
def floL : List ByteArray := [⟨#[101, 113]⟩, ⟨#[110, 101]⟩, ⟨#[108, 116]⟩, ⟨#[103, 116]⟩, ⟨#[108, 101]⟩, ⟨#[103, 101]⟩]
set_option maxHeartbeats 4000000 in
set_option maxRecDepth 100000 in
theorem floL_l : Lst 30 #[] floL := by
  refine hide (fun W => ?_)
  go_enter Tryz.func30, Tryz.ntmps30
  go_wp2_with fail
  go_ret
  exact ⟨_, rfl, tab_alloc W (floL.map Value.string) 9, below1 _ _⟩
def whoL : List ByteArray := [⟨#[99, 108, 122]⟩, ⟨#[99, 116, 122]⟩, ⟨#[112, 111, 112, 99, 110, 116]⟩, ⟨#[97, 100, 100]⟩, ⟨#[115, 117, 98]⟩, ⟨#[109, 117, 108]⟩, ⟨#[100, 105, 118, 95, 115]⟩, ⟨#[100, 105, 118, 95, 117]⟩, ⟨#[114, 101, 109, 95, 115]⟩, ⟨#[114, 101, 109, 95, 117]⟩, ⟨#[97, 110, 100]⟩, ⟨#[111, 114]⟩, ⟨#[120, 111, 114]⟩, ⟨#[115, 104, 108]⟩, ⟨#[115, 104, 114, 95, 115]⟩, ⟨#[115, 104, 114, 95, 117]⟩, ⟨#[114, 111, 116, 108]⟩, ⟨#[114, 111, 116, 114]⟩]
set_option maxHeartbeats 4000000 in
set_option maxRecDepth 100000 in
theorem whoL_l : Lst 120 #[] whoL := by
  refine hide (fun W => ?_)
  go_enter Tryz.func120, Tryz.ntmps120
  go_wp2_with fail
  go_ret
  exact ⟨_, rfl, tab_alloc W (whoL.map Value.string) 9, below1 _ _⟩
def douL : List ByteArray := [⟨#[97, 98, 115]⟩, ⟨#[110, 101, 103]⟩, ⟨#[99, 101, 105, 108]⟩, ⟨#[102, 108, 111, 111, 114]⟩, ⟨#[116, 114, 117, 110, 99]⟩, ⟨#[110, 101, 97, 114, 101, 115, 116]⟩, ⟨#[115, 113, 114, 116]⟩, ⟨#[97, 100, 100]⟩, ⟨#[115, 117, 98]⟩, ⟨#[109, 117, 108]⟩, ⟨#[100, 105, 118]⟩, ⟨#[109, 105, 110]⟩, ⟨#[109, 97, 120]⟩, ⟨#[99, 111, 112, 121, 115, 105, 103, 110]⟩]
set_option maxHeartbeats 4000000 in
set_option maxRecDepth 100000 in
theorem douL_l : Lst 121 #[] douL := by
  refine hide (fun W => ?_)
  go_enter Tryz.func121, Tryz.ntmps121
  go_wp2_with fail
  go_ret
  exact ⟨_, rfl, tab_alloc W (douL.map Value.string) 9, below1 _ _⟩
def turL : List ByteArray := [⟨#[105, 51, 50, 46, 119, 114, 97, 112, 95, 105, 54, 52]⟩, ⟨#[105, 51, 50, 46, 116, 114, 117, 110, 99, 95, 102, 51, 50, 95, 115]⟩, ⟨#[105, 51, 50, 46, 116, 114, 117, 110, 99, 95, 102, 51, 50, 95, 117]⟩, ⟨#[105, 51, 50, 46, 116, 114, 117, 110, 99, 95, 102, 54, 52, 95, 115]⟩, ⟨#[105, 51, 50, 46, 116, 114, 117, 110, 99, 95, 102, 54, 52, 95, 117]⟩, ⟨#[105, 54, 52, 46, 101, 120, 116, 101, 110, 100, 95, 105, 51, 50, 95, 115]⟩, ⟨#[105, 54, 52, 46, 101, 120, 116, 101, 110, 100, 95, 105, 51, 50, 95, 117]⟩, ⟨#[105, 54, 52, 46, 116, 114, 117, 110, 99, 95, 102, 51, 50, 95, 115]⟩, ⟨#[105, 54, 52, 46, 116, 114, 117, 110, 99, 95, 102, 51, 50, 95, 117]⟩, ⟨#[105, 54, 52, 46, 116, 114, 117, 110, 99, 95, 102, 54, 52, 95, 115]⟩, ⟨#[105, 54, 52, 46, 116, 114, 117, 110, 99, 95, 102, 54, 52, 95, 117]⟩, ⟨#[102, 51, 50, 46, 99, 111, 110, 118, 101, 114, 116, 95, 105, 51, 50, 95, 115]⟩, ⟨#[102, 51, 50, 46, 99, 111, 110, 118, 101, 114, 116, 95, 105, 51, 50, 95, 117]⟩, ⟨#[102, 51, 50, 46, 99, 111, 110, 118, 101, 114, 116, 95, 105, 54, 52, 95, 115]⟩, ⟨#[102, 51, 50, 46, 99, 111, 110, 118, 101, 114, 116, 95, 105, 54, 52, 95, 117]⟩, ⟨#[102, 51, 50, 46, 100, 101, 109, 111, 116, 101, 95, 102, 54, 52]⟩, ⟨#[102, 54, 52, 46, 99, 111, 110, 118, 101, 114, 116, 95, 105, 51, 50, 95, 115]⟩, ⟨#[102, 54, 52, 46, 99, 111, 110, 118, 101, 114, 116, 95, 105, 51, 50, 95, 117]⟩, ⟨#[102, 54, 52, 46, 99, 111, 110, 118, 101, 114, 116, 95, 105, 54, 52, 95, 115]⟩, ⟨#[102, 54, 52, 46, 99, 111, 110, 118, 101, 114, 116, 95, 105, 54, 52, 95, 117]⟩, ⟨#[102, 54, 52, 46, 112, 114, 111, 109, 111, 116, 101, 95, 102, 51, 50]⟩, ⟨#[105, 51, 50, 46, 114, 101, 105, 110, 116, 101, 114, 112, 114, 101, 116, 95, 102, 51, 50]⟩, ⟨#[105, 54, 52, 46, 114, 101, 105, 110, 116, 101, 114, 112, 114, 101, 116, 95, 102, 54, 52]⟩, ⟨#[102, 51, 50, 46, 114, 101, 105, 110, 116, 101, 114, 112, 114, 101, 116, 95, 105, 51, 50]⟩, ⟨#[102, 54, 52, 46, 114, 101, 105, 110, 116, 101, 114, 112, 114, 101, 116, 95, 105, 54, 52]⟩]
set_option maxHeartbeats 4000000 in
set_option maxRecDepth 100000 in
theorem turL_l : Lst 122 #[] turL := by
  refine hide (fun W => ?_)
  go_enter Tryz.func122, Tryz.ntmps122
  go_wp2_with fail
  go_ret
  exact ⟨_, rfl, tab_alloc W (turL.map Value.string) 9, below1 _ _⟩
def satL : List ByteArray := [⟨#[105, 51, 50, 46, 116, 114, 117, 110, 99, 95, 115, 97, 116, 95, 102, 51, 50, 95, 115]⟩, ⟨#[105, 51, 50, 46, 116, 114, 117, 110, 99, 95, 115, 97, 116, 95, 102, 51, 50, 95, 117]⟩, ⟨#[105, 51, 50, 46, 116, 114, 117, 110, 99, 95, 115, 97, 116, 95, 102, 54, 52, 95, 115]⟩, ⟨#[105, 51, 50, 46, 116, 114, 117, 110, 99, 95, 115, 97, 116, 95, 102, 54, 52, 95, 117]⟩, ⟨#[105, 54, 52, 46, 116, 114, 117, 110, 99, 95, 115, 97, 116, 95, 102, 51, 50, 95, 115]⟩, ⟨#[105, 54, 52, 46, 116, 114, 117, 110, 99, 95, 115, 97, 116, 95, 102, 51, 50, 95, 117]⟩, ⟨#[105, 54, 52, 46, 116, 114, 117, 110, 99, 95, 115, 97, 116, 95, 102, 54, 52, 95, 115]⟩, ⟨#[105, 54, 52, 46, 116, 114, 117, 110, 99, 95, 115, 97, 116, 95, 102, 54, 52, 95, 117]⟩]
set_option maxHeartbeats 4000000 in
set_option maxRecDepth 100000 in
theorem satL_l : Lst 62 #[] satL := by
  refine hide (fun W => ?_)
  go_enter Tryz.func62, Tryz.ntmps62
  go_wp2_with fail
  go_ret
  exact ⟨_, rfl, tab_alloc W (satL.map Value.string) 9, below1 _ _⟩
set_option maxHeartbeats 4000000 in
set_option maxRecDepth 100000 in
theorem in_any {L : List ByteArray} {s : ByteArray} {b c : Nat} (hn : L.length ≤ 100) (W : World) (hT : Tab W b (L.map Value.string)) :
    Calls Tryz.prog 28 #[.slice (some ⟨b, 0, none⟩) L.length c, .string s] W fun r W' => r = .returned (.bool (L.any fun x => x.toList == s.toList)) ∧ Below W.heap.size W W' := by
  have HT := hide hT
  clear hT
  generalize hr : (L.any fun x => x.toList == s.toList) = res
  have HR := hide hr
  generalize hl : L.length = n at *
  clear hr
  go_enter Tryz.func28, Tryz.ntmps28
  go_wp2_with fail
  go_loop [5] (fun v5 => ∃ i : Nat, i ≤ n ∧ v5 = .int .i64 (i : Int) ∧ ∀ j x, j < i → L[j]? = some x → (x.toList == s.toList) = false) (fun v5 => n - (intOf v5).toNat)
  case atStart => exact ⟨0, by omega, rfl, fun j x h _ => by omega⟩
  case round =>
    obtain ⟨i, hi, rfl, hno⟩ := hrel
    have HN := hide hno
    clear hno
    by_cases hc : i < n
    · obtain ⟨x, hx⟩ : ∃ x, L[i]? = some x := ⟨_, List.getElem?_eq_getElem (by omega)⟩
      have hcell := unhide HT i (.string x) (by rw [List.getElem?_map, hx]; rfl)
      have HX := hide hx
      have ei : IntKind.i64.wrap ((i : Int) + 1) = (i : Int) + 1 := i64_id (by omega) (by omega)
      clear hx
      cases he : (x.toList == s.toList)
      · go_wp2_with fail
        refine ⟨⟨i + 1, by omega, by go_num, fun j y hj hy => ?_⟩, by simp [intOf]; omega⟩
        by_cases hji : j = i
        · subst hji
          rw [unhide HX] at hy
          injection hy with hy
          subst hy
          exact he
        · exact unhide HN j y (by omega) hy
      · have hres : res = true := by
          rw [← unhide HR, List.any_eq_true]
          exact ⟨x, List.mem_of_getElem? (unhide HX), he⟩
        go_wp2_with fail
        go_ret
        exact ⟨rfl, Below.refl _ _⟩
    · have hres : res = false := by
        rw [← unhide HR, List.any_eq_false]
        intro x hx
        obtain ⟨j, hj, rfl⟩ := List.getElem_of_mem hx
        have := unhide HN j _ (by omega) (List.getElem?_eq_getElem hj)
        simp only [this, Bool.false_eq_true, not_false_eq_true]
      go_wp2_with fail
      go_ret
      exact ⟨rfl, Below.refl _ _⟩
end Go.Proofs.YtpbgpdmffejdgaaGreatDoor
