/- The reference's lists of opcodes and names. -/
import Derived.Test.YtkpdanjfdcoldaaDoorRnA
namespace Go.Proofs.YtkpdanjfdcoldaaDoor
open Go.RowKit

/-- A list of whole numbers, in new memory. -/
def LsI (f : Nat) (L : List Int) : Prop := Hid (∀ W, Calls Tryd.prog f #[] W fun r W' => ∃ b, r = .returned (.slice (some ⟨b, 0, none⟩) L.length L.length) ∧ Tab W' b (L.map (Value.int .i64)) ∧ Below W.heap.size W W')
def codL : List Int := [0, 1, 2, 3, 4, 5, 11, 12, 13, 14, 15, 16, 17, 26, 27, 32, 33, 34, 35, 36, 63, 64, 65, 66, 67, 68]
set_option maxHeartbeats 4000000 in
set_option maxRecDepth 100000 in
theorem codL_l : LsI 14 codL := by
  refine hide (fun W => ?_)
  go_enter Tryd.func14, Tryd.ntmps14
  go_wp2_with fail
  go_ret
  exact ⟨_, rfl, tab_alloc W (codL.map (Value.int .i64)) 3, below1 _ _⟩
def conL : List ByteArray := [⟨#[117, 110, 114, 101, 97, 99, 104, 97, 98, 108, 101]⟩, ⟨#[110, 111, 112]⟩, ⟨#[98, 108, 111, 99, 107]⟩, ⟨#[108, 111, 111, 112]⟩, ⟨#[105, 102]⟩, ⟨#[101, 108, 115, 101]⟩, ⟨#[101, 110, 100]⟩, ⟨#[98, 114]⟩, ⟨#[98, 114, 95, 105, 102]⟩, ⟨#[98, 114, 95, 116, 97, 98, 108, 101]⟩, ⟨#[114, 101, 116, 117, 114, 110]⟩, ⟨#[99, 97, 108, 108]⟩, ⟨#[99, 97, 108, 108, 95, 105, 110, 100, 105, 114, 101, 99, 116]⟩, ⟨#[100, 114, 111, 112]⟩, ⟨#[115, 101, 108, 101, 99, 116]⟩, ⟨#[108, 111, 99, 97, 108, 46, 103, 101, 116]⟩, ⟨#[108, 111, 99, 97, 108, 46, 115, 101, 116]⟩, ⟨#[108, 111, 99, 97, 108, 46, 116, 101, 101]⟩, ⟨#[103, 108, 111, 98, 97, 108, 46, 103, 101, 116]⟩, ⟨#[103, 108, 111, 98, 97, 108, 46, 115, 101, 116]⟩, ⟨#[109, 101, 109, 111, 114, 121, 46, 115, 105, 122, 101]⟩, ⟨#[109, 101, 109, 111, 114, 121, 46, 103, 114, 111, 119]⟩, ⟨#[105, 51, 50, 46, 99, 111, 110, 115, 116]⟩, ⟨#[105, 54, 52, 46, 99, 111, 110, 115, 116]⟩, ⟨#[102, 51, 50, 46, 99, 111, 110, 115, 116]⟩, ⟨#[102, 54, 52, 46, 99, 111, 110, 115, 116]⟩]
set_option maxHeartbeats 4000000 in
set_option maxRecDepth 100000 in
theorem conL_l : Lst 19 #[] conL := by
  refine hide (fun W => ?_)
  go_enter Tryd.func19, Tryd.ntmps19
  go_wp2_with fail
  go_ret
  exact ⟨_, rfl, tab_alloc W (conL.map Value.string) 9, below1 _ _⟩
def accL : List ByteArray := [⟨#[105, 51, 50, 46, 108, 111, 97, 100]⟩, ⟨#[105, 54, 52, 46, 108, 111, 97, 100]⟩, ⟨#[102, 51, 50, 46, 108, 111, 97, 100]⟩, ⟨#[102, 54, 52, 46, 108, 111, 97, 100]⟩, ⟨#[105, 51, 50, 46, 108, 111, 97, 100, 56, 95, 115]⟩, ⟨#[105, 51, 50, 46, 108, 111, 97, 100, 56, 95, 117]⟩, ⟨#[105, 51, 50, 46, 108, 111, 97, 100, 49, 54, 95, 115]⟩, ⟨#[105, 51, 50, 46, 108, 111, 97, 100, 49, 54, 95, 117]⟩, ⟨#[105, 54, 52, 46, 108, 111, 97, 100, 56, 95, 115]⟩, ⟨#[105, 54, 52, 46, 108, 111, 97, 100, 56, 95, 117]⟩, ⟨#[105, 54, 52, 46, 108, 111, 97, 100, 49, 54, 95, 115]⟩, ⟨#[105, 54, 52, 46, 108, 111, 97, 100, 49, 54, 95, 117]⟩, ⟨#[105, 54, 52, 46, 108, 111, 97, 100, 51, 50, 95, 115]⟩, ⟨#[105, 54, 52, 46, 108, 111, 97, 100, 51, 50, 95, 117]⟩, ⟨#[105, 51, 50, 46, 115, 116, 111, 114, 101]⟩, ⟨#[105, 54, 52, 46, 115, 116, 111, 114, 101]⟩, ⟨#[102, 51, 50, 46, 115, 116, 111, 114, 101]⟩, ⟨#[102, 54, 52, 46, 115, 116, 111, 114, 101]⟩, ⟨#[105, 51, 50, 46, 115, 116, 111, 114, 101, 56]⟩, ⟨#[105, 51, 50, 46, 115, 116, 111, 114, 101, 49, 54]⟩, ⟨#[105, 54, 52, 46, 115, 116, 111, 114, 101, 56]⟩, ⟨#[105, 54, 52, 46, 115, 116, 111, 114, 101, 49, 54]⟩, ⟨#[105, 54, 52, 46, 115, 116, 111, 114, 101, 51, 50]⟩]
set_option maxHeartbeats 4000000 in
set_option maxRecDepth 100000 in
theorem accL_l : Lst 20 #[] accL := by
  refine hide (fun W => ?_)
  go_enter Tryd.func20, Tryd.ntmps20
  go_wp2_with fail
  go_ret
  exact ⟨_, rfl, tab_alloc W (accL.map Value.string) 9, below1 _ _⟩
def immL : List Int := [0, 0, 1, 1, 1, 12, 12, 2, 2, 3, 0, 4, 5, 0, 0, 4, 4, 4, 4, 4, 7, 7, 8, 9, 10, 11]
set_option maxHeartbeats 4000000 in
set_option maxRecDepth 100000 in
theorem immL_l : LsI 15 immL := by
  refine hide (fun W => ?_)
  go_enter Tryd.func15, Tryd.ntmps15
  go_wp2_with fail
  go_ret
  exact ⟨_, rfl, tab_alloc W (immL.map (Value.int .i64)) 3, below1 _ _⟩
def sizL : List Int := [4, 8, 4, 8, 1, 1, 2, 2, 1, 1, 2, 2, 4, 4, 4, 8, 4, 8, 1, 2, 1, 2, 4]
set_option maxHeartbeats 4000000 in
set_option maxRecDepth 100000 in
theorem sizL_l : LsI 28 sizL := by
  refine hide (fun W => ?_)
  go_enter Tryd.func28, Tryd.ntmps28
  go_wp2_with fail
  go_ret
  exact ⟨_, rfl, tab_alloc W (sizL.map (Value.int .i64)) 3, below1 _ _⟩

end Go.Proofs.YtkpdanjfdcoldaaDoor
