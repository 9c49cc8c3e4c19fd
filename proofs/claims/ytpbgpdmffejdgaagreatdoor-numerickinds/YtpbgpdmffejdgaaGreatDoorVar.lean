/- What the five package-level variables hold. -/
import Derived.Test.YtpbgpdmffejdgaaGreatDoorTk
import Derived.Shelf.Spec.TrailingZeros
namespace Go.Proofs.YtpbgpdmffejdgaaGreatDoor
open Go.RowKit

/-- The variable's first cells hold the list. -/
def Tab (W : World) (g : Nat) (L : List Value) : Prop := ∀ j v, L[j]? = some v → W.cell? ⟨g, j, none⟩ = some v
theorem Tab.below {w w' : World} {g : Nat} {L : List Value} (h : Tab w g L) (hb : Below w.heap.size w w') : Tab w' g L := fun j v hv => keep1 hb (lt_of_cell (h j v hv)) (h j v hv)
def gL : List Value := [.int .i64 69, .int .i64 11, .int .i64 0, .int .u8 127, .int .i64 80, .int .i64 11, .int .i64 0, .int .u8 126, .int .i64 91, .int .i64 6, .int .i64 1, .int .u8 125, .int .i64 97, .int .i64 6, .int .i64 1, .int .u8 124, .int .i64 103, .int .i64 18, .int .i64 2, .int .u8 127, .int .i64 121, .int .i64 18, .int .i64 2, .int .u8 126, .int .i64 139, .int .i64 14, .int .i64 3, .int .u8 125, .int .i64 153, .int .i64 14, .int .i64 3, .int .u8 124, .int .i64 167, .int .i64 25, .int .i64 4, .int .u8 0, .int .i64 64512, .int .i64 8, .int .i64 5, .int .u8 0]
def cL : List Value := [126, 127, 125, 127, 125, 127, 124, 127, 124, 127, 127, 126, 127, 126, 125, 126, 125, 126, 124, 126, 124, 126, 127, 125, 127, 125, 126, 125, 126, 125, 124, 125, 127, 124, 127, 124, 126, 124, 126, 124, 125, 124, 125, 127, 124, 126, 127, 125, 126, 124].map fun n : Int => .int .u8 n
def sL : List Value := [125, 127, 125, 127, 124, 127, 124, 127, 125, 126, 125, 126, 124, 126, 124, 126].map fun n : Int => .int .u8 n
structure Mk (W : World) : Prop where
  groups : Tab W 0 gL
  changed : Tab W 1 cL
  stopped : Tab W 2 sL
  marks : W.cell? ⟨3, 0, none⟩ = some (.int .i64 32) ∧ W.cell? ⟨3, 1, none⟩ = some (.int .u64 2147483648) ∧ W.cell? ⟨3, 2, none⟩ = some (.int .i64 64) ∧ W.cell? ⟨3, 3, none⟩ = some (.int .u64 9223372036854775808)
  tab : ∀ j, j < 64 → W.cell? ⟨4, j, none⟩ = some (.int .u8 (Lib.deBruijn64tab.getD j 0 : Nat))
theorem Mk.below {w w' : World} (h : Mk w) (hb : Below w.heap.size w w') : Mk w' :=
  have hz := lt_of_cell h.marks.1
  ⟨h.groups.below hb, h.changed.below hb, h.stopped.below hb, ⟨keep1 hb hz h.marks.1, keep1 hb hz h.marks.2.1, keep1 hb hz h.marks.2.2.1, keep1 hb hz h.marks.2.2.2⟩, fun j hj => keep1 hb (lt_of_cell (h.tab j hj)) (h.tab j hj)⟩
/-- What a function answers where the variables hold that. -/
def Cm (f : Nat) (args : Array Value) (res : Value) : Prop := Hid (∀ W, Mk W → Calls Tryz.prog f args W fun r W' => r = .returned res ∧ Below W.heap.size W W')
theorem Ct.m {f : Nat} {args : Array Value} {res : Value} (h : Ct f args res) : Cm f args res := fun W _ => h W
end Go.Proofs.YtpbgpdmffejdgaaGreatDoor
