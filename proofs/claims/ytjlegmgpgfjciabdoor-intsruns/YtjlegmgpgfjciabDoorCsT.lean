/- Where math/bits' table holds what its initialiser lays: TrailingZeros64; package cast's span, known, Exact. -/
import Derived.Test.YtjlegmgpgfjciabDoorTk
import Derived.Test.YtjlegmgpgfjciabDoorWLeafB
import Derived.Test.YtjlegmgpgfjciabDoorEnds
import Derived.Shelf.Spec.TrailingZeros
namespace Go.Proofs.YtjlegmgpgfjciabDoor
open Go.RowKit
open Go.Proofs.YtjlegmgpgfjciabDoor.W

/-- The table of de Bruijn's numbers, in its variable. -/
def Mk (W : World) : Prop := ∀ j, j < 64 → W.cell? ⟨0, j, none⟩ = some (.int .u8 (Lib.deBruijn64tab.getD j 0 : Nat))
theorem Mk.below {w w' : World} (h : Mk w) (hb : Below w.heap.size w w') : Mk w' := fun j hj => keep1 hb (lt_of_cell (h j hj)) (h j hj)
/-- What a function answers where the table is so. -/
def Cm (f : Nat) (args : Array Value) (res : Value) : Prop := Hid (∀ W, Mk W → Calls Tryd.prog f args W fun r W' => r = .returned res ∧ Below W.heap.size W W')

/-- How the shelf's numbers of functions, types and variables are named here. -/
def ren : Go.Shelf.Ren := ⟨fun _ => 16, fun t => if t = 25 then 44 else if t = 54 then 51 else t, fun _ => 0⟩
theorem lays : Go.Proofs.Lays7.n29 Tryd.prog ren where
  mixed := by kernel_rfl
  f29 := by kernel_rfl
  t0 := by kernel_rfl
  a0 := fun _ => by kernel_rfl
  z0 := fun _ => by kernel_rfl
  v0 := fun _ => by kernel_rfl
  i0 := by kernel_rfl
  t3 := by kernel_rfl
  a3 := fun _ => by kernel_rfl
  z3 := fun _ => by kernel_rfl
  v3 := fun _ => by kernel_rfl
  i3 := by kernel_rfl
  t4 := by kernel_rfl
  a4 := fun _ => by kernel_rfl
  z4 := fun _ => by kernel_rfl
  v4 := fun _ => by kernel_rfl
  i4 := by kernel_rfl
  t5 := by kernel_rfl
  a5 := fun _ => by kernel_rfl
  z5 := fun _ => by kernel_rfl
  v5 := fun _ => by kernel_rfl
  i5 := by kernel_rfl
  t22 := by kernel_rfl
  a22 := fun _ => by kernel_rfl
  z22 := fun _ => by kernel_rfl
  v22 := fun _ => by kernel_rfl
  i22 := by kernel_rfl
  t25 := by kernel_rfl
  a25 := fun _ => by kernel_rfl
  z25 := fun _ => by kernel_rfl
  v25 := fun _ => by kernel_rfl
  i25 := by kernel_rfl
  t54 := by kernel_rfl
  a54 := fun _ => by kernel_rfl
  z54 := fun _ => by kernel_rfl
  g1 := by kernel_rfl
theorem tz_any (x : Nat) (h1 : x < 18446744073709551616) (W : World) (m : Mk W) :
    Calls Tryd.prog 16 #[.int .u64 x] W fun r W' => r = .returned (.int .i64 (Lib.ctz 64 x : Nat)) ∧ W' = W :=
  Go.Proofs.Any7.bits_TrailingZeros64 lays x h1 W (fun _ => m)
theorem tz_zero (W : World) (m : Mk W) : Calls Tryd.prog 16 #[.int .u64 0] W fun r W' => r = .returned (.int .i64 64) ∧ W' = W := tz_any 0 (by omega) W m

end Go.Proofs.YtjlegmgpgfjciabDoor
