/- Lists of names. -/
import Derived.Test.YtkpdanjfdcoldaaDoorTk
import Derived.Laws.Rows
namespace Go.Proofs.YtkpdanjfdcoldaaDoor
open Go.RowKit

/-- What lies in a block, cell by cell. -/
def Tab (W : World) (g : Nat) (L : List Value) : Prop := ∀ j v, L[j]? = some v → W.cell? ⟨g, j, none⟩ = some v
theorem Tab.below {w w' : World} {g : Nat} {L : List Value} (h : Tab w g L) (hb : Below w.heap.size w w') : Tab w' g L := fun j v hv => keep1 hb (lt_of_cell (h j v hv)) (h j v hv)
theorem tab_alloc (W : World) (L : List Value) (t : TypeId) : Tab (W.alloc (.cells L.toArray t)) W.heap.size L := fun j v hv => by
  rw [cell_of_row (W.alloc (.cells L.toArray t)) W.heap.size j L.toArray t (0, 0) (heap_alloc_new _ _)]
  simpa using hv
/-- A list of names, in new memory. -/
def Lst (f : Nat) (args : Array Value) (L : List ByteArray) : Prop := Hid (∀ W, Calls Tryd.prog f args W fun r W' => ∃ b, r = .returned (.slice (some ⟨b, 0, none⟩) L.length L.length) ∧ Tab W' b (L.map Value.string) ∧ Below W.heap.size W W')
def relL : List ByteArray := [⟨#[101, 113, 122]⟩, ⟨#[101, 113]⟩, ⟨#[110, 101]⟩, ⟨#[108, 116, 95, 115]⟩, ⟨#[108, 116, 95, 117]⟩, ⟨#[103, 116, 95, 115]⟩, ⟨#[103, 116, 95, 117]⟩, ⟨#[108, 101, 95, 115]⟩, ⟨#[108, 101, 95, 117]⟩, ⟨#[103, 101, 95, 115]⟩, ⟨#[103, 101, 95, 117]⟩]
set_option maxHeartbeats 4000000 in
set_option maxRecDepth 100000 in
theorem relL_l : Lst 41 #[] relL := by
  refine hide (fun W => ?_)
  go_enter Tryd.func41, Tryd.ntmps41
  go_wp2_with fail
  go_ret
  exact ⟨_, rfl, tab_alloc W (relL.map Value.string) 9, below1 _ _⟩
def floL : List ByteArray := [⟨#[101, 113]⟩, ⟨#[110, 101]⟩, ⟨#[108, 116]⟩, ⟨#[103, 116]⟩, ⟨#[108, 101]⟩, ⟨#[103, 101]⟩]
set_option maxHeartbeats 4000000 in
set_option maxRecDepth 100000 in
theorem floL_l : Lst 42 #[] floL := by
  refine hide (fun W => ?_)
  go_enter Tryd.func42, Tryd.ntmps42
  go_wp2_with fail
  go_ret
  exact ⟨_, rfl, tab_alloc W (floL.map Value.string) 9, below1 _ _⟩
def whoL : List ByteArray := [⟨#[99, 108, 122]⟩, ⟨#[99, 116, 122]⟩, ⟨#[112, 111, 112, 99, 110, 116]⟩, ⟨#[97, 100, 100]⟩, ⟨#[115, 117, 98]⟩, ⟨#[109, 117, 108]⟩, ⟨#[100, 105, 118, 95, 115]⟩, ⟨#[100, 105, 118, 95, 117]⟩, ⟨#[114, 101, 109, 95, 115]⟩, ⟨#[114, 101, 109, 95, 117]⟩, ⟨#[97, 110, 100]⟩, ⟨#[111, 114]⟩, ⟨#[120, 111, 114]⟩, ⟨#[115, 104, 108]⟩, ⟨#[115, 104, 114, 95, 115]⟩, ⟨#[115, 104, 114, 95, 117]⟩, ⟨#[114, 111, 116, 108]⟩, ⟨#[114, 111, 116, 114]⟩]
set_option maxHeartbeats 4000000 in
set_option maxRecDepth 100000 in
theorem whoL_l : Lst 43 #[] whoL := by
  refine hide (fun W => ?_)
  go_enter Tryd.func43, Tryd.ntmps43
  go_wp2_with fail
  go_ret
  exact ⟨_, rfl, tab_alloc W (whoL.map Value.string) 9, below1 _ _⟩
def douL : List ByteArray := [⟨#[97, 98, 115]⟩, ⟨#[110, 101, 103]⟩, ⟨#[99, 101, 105, 108]⟩, ⟨#[102, 108, 111, 111, 114]⟩, ⟨#[116, 114, 117, 110, 99]⟩, ⟨#[110, 101, 97, 114, 101, 115, 116]⟩, ⟨#[115, 113, 114, 116]⟩, ⟨#[97, 100, 100]⟩, ⟨#[115, 117, 98]⟩, ⟨#[109, 117, 108]⟩, ⟨#[100, 105, 118]⟩, ⟨#[109, 105, 110]⟩, ⟨#[109, 97, 120]⟩, ⟨#[99, 111, 112, 121, 115, 105, 103, 110]⟩]
set_option maxHeartbeats 4000000 in
set_option maxRecDepth 100000 in
theorem douL_l : Lst 44 #[] douL := by
  refine hide (fun W => ?_)
  go_enter Tryd.func44, Tryd.ntmps44
  go_wp2_with fail
  go_ret
  exact ⟨_, rfl, tab_alloc W (douL.map Value.string) 9, below1 _ _⟩
def turL : List ByteArray := [⟨#[105, 51, 50, 46, 119, 114, 97, 112, 95, 105, 54, 52]⟩, ⟨#[105, 51, 50, 46, 116, 114, 117, 110, 99, 95, 102, 51, 50, 95, 115]⟩, ⟨#[105, 51, 50, 46, 116, 114, 117, 110, 99, 95, 102, 51, 50, 95, 117]⟩, ⟨#[105, 51, 50, 46, 116, 114, 117, 110, 99, 95, 102, 54, 52, 95, 115]⟩, ⟨#[105, 51, 50, 46, 116, 114, 117, 110, 99, 95, 102, 54, 52, 95, 117]⟩, ⟨#[105, 54, 52, 46, 101, 120, 116, 101, 110, 100, 95, 105, 51, 50, 95, 115]⟩, ⟨#[105, 54, 52, 46, 101, 120, 116, 101, 110, 100, 95, 105, 51, 50, 95, 117]⟩, ⟨#[105, 54, 52, 46, 116, 114, 117, 110, 99, 95, 102, 51, 50, 95, 115]⟩, ⟨#[105, 54, 52, 46, 116, 114, 117, 110, 99, 95, 102, 51, 50, 95, 117]⟩, ⟨#[105, 54, 52, 46, 116, 114, 117, 110, 99, 95, 102, 54, 52, 95, 115]⟩, ⟨#[105, 54, 52, 46, 116, 114, 117, 110, 99, 95, 102, 54, 52, 95, 117]⟩, ⟨#[102, 51, 50, 46, 99, 111, 110, 118, 101, 114, 116, 95, 105, 51, 50, 95, 115]⟩, ⟨#[102, 51, 50, 46, 99, 111, 110, 118, 101, 114, 116, 95, 105, 51, 50, 95, 117]⟩, ⟨#[102, 51, 50, 46, 99, 111, 110, 118, 101, 114, 116, 95, 105, 54, 52, 95, 115]⟩, ⟨#[102, 51, 50, 46, 99, 111, 110, 118, 101, 114, 116, 95, 105, 54, 52, 95, 117]⟩, ⟨#[102, 51, 50, 46, 100, 101, 109, 111, 116, 101, 95, 102, 54, 52]⟩, ⟨#[102, 54, 52, 46, 99, 111, 110, 118, 101, 114, 116, 95, 105, 51, 50, 95, 115]⟩, ⟨#[102, 54, 52, 46, 99, 111, 110, 118, 101, 114, 116, 95, 105, 51, 50, 95, 117]⟩, ⟨#[102, 54, 52, 46, 99, 111, 110, 118, 101, 114, 116, 95, 105, 54, 52, 95, 115]⟩, ⟨#[102, 54, 52, 46, 99, 111, 110, 118, 101, 114, 116, 95, 105, 54, 52, 95, 117]⟩, ⟨#[102, 54, 52, 46, 112, 114, 111, 109, 111, 116, 101, 95, 102, 51, 50]⟩, ⟨#[105, 51, 50, 46, 114, 101, 105, 110, 116, 101, 114, 112, 114, 101, 116, 95, 102, 51, 50]⟩, ⟨#[105, 54, 52, 46, 114, 101, 105, 110, 116, 101, 114, 112, 114, 101, 116, 95, 102, 54, 52]⟩, ⟨#[102, 51, 50, 46, 114, 101, 105, 110, 116, 101, 114, 112, 114, 101, 116, 95, 105, 51, 50]⟩, ⟨#[102, 54, 52, 46, 114, 101, 105, 110, 116, 101, 114, 112, 114, 101, 116, 95, 105, 54, 52]⟩]
set_option maxHeartbeats 4000000 in
set_option maxRecDepth 100000 in
theorem turL_l : Lst 45 #[] turL := by
  refine hide (fun W => ?_)
  go_enter Tryd.func45, Tryd.ntmps45
  go_wp2_with fail
  go_ret
  exact ⟨_, rfl, tab_alloc W (turL.map Value.string) 9, below1 _ _⟩
def satL : List ByteArray := [⟨#[105, 51, 50, 46, 116, 114, 117, 110, 99, 95, 115, 97, 116, 95, 102, 51, 50, 95, 115]⟩, ⟨#[105, 51, 50, 46, 116, 114, 117, 110, 99, 95, 115, 97, 116, 95, 102, 51, 50, 95, 117]⟩, ⟨#[105, 51, 50, 46, 116, 114, 117, 110, 99, 95, 115, 97, 116, 95, 102, 54, 52, 95, 115]⟩, ⟨#[105, 51, 50, 46, 116, 114, 117, 110, 99, 95, 115, 97, 116, 95, 102, 54, 52, 95, 117]⟩, ⟨#[105, 54, 52, 46, 116, 114, 117, 110, 99, 95, 115, 97, 116, 95, 102, 51, 50, 95, 115]⟩, ⟨#[105, 54, 52, 46, 116, 114, 117, 110, 99, 95, 115, 97, 116, 95, 102, 51, 50, 95, 117]⟩, ⟨#[105, 54, 52, 46, 116, 114, 117, 110, 99, 95, 115, 97, 116, 95, 102, 54, 52, 95, 115]⟩, ⟨#[105, 54, 52, 46, 116, 114, 117, 110, 99, 95, 115, 97, 116, 95, 102, 54, 52, 95, 117]⟩]
set_option maxHeartbeats 4000000 in
set_option maxRecDepth 100000 in
theorem satL_l : Lst 32 #[] satL := by
  refine hide (fun W => ?_)
  go_enter Tryd.func32, Tryd.ntmps32
  go_wp2_with fail
  go_ret
  exact ⟨_, rfl, tab_alloc W (satL.map Value.string) 9, below1 _ _⟩
end Go.Proofs.YtkpdanjfdcoldaaDoor
