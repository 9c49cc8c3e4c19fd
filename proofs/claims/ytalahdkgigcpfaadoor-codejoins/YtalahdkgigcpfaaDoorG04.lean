/- Var. -/
import Derived.Test.YtalahdkgigcpfaaDoorG01
namespace Go.Proofs.YtalahdkgigcpfaaDoor
open Go.RowKit

def gL : List Value := [.int .i64 69, .int .i64 11, .int .i64 0, .int .u8 127, .int .i64 80, .int .i64 11, .int .i64 0, .int .u8 126, .int .i64 91, .int .i64 6, .int .i64 1, .int .u8 125, .int .i64 97, .int .i64 6, .int .i64 1, .int .u8 124, .int .i64 103, .int .i64 18, .int .i64 2, .int .u8 127, .int .i64 121, .int .i64 18, .int .i64 2, .int .u8 126, .int .i64 139, .int .i64 14, .int .i64 3, .int .u8 125, .int .i64 153, .int .i64 14, .int .i64 3, .int .u8 124, .int .i64 167, .int .i64 25, .int .i64 4, .int .u8 0, .int .i64 64512, .int .i64 8, .int .i64 5, .int .u8 0]
def cL : List Value := [126, 127, 125, 127, 125, 127, 124, 127, 124, 127, 127, 126, 127, 126, 125, 126, 125, 126, 124, 126, 124, 126, 127, 125, 127, 125, 126, 125, 126, 125, 124, 125, 127, 124, 127, 124, 126, 124, 126, 124, 125, 124, 125, 127, 124, 126, 127, 125, 126, 124].map fun n : Int => .int .u8 n
def sL : List Value := [125, 127, 125, 127, 124, 127, 124, 127, 125, 126, 125, 126, 124, 126, 124, 126].map fun n : Int => .int .u8 n
structure Mk (W : World) : Prop where
  groups : Tab W 0 gL
  changed : Tab W 1 cL
  stopped : Tab W 2 sL
theorem Mk.below {w w' : World} (h : Mk w) (hb : Below w.heap.size w w') : Mk w' :=
  ⟨h.groups.below hb, h.changed.below hb, h.stopped.below hb⟩
/-- What a function answers where the variables hold that. -/
def Cm (f : Nat) (args : Array Value) (res : Value) : Prop := Hid (∀ W, Mk W → Calls Tryd.prog f args W fun r W' => r = .returned res ∧ Below W.heap.size W W')
theorem Ct.m {f : Nat} {args : Array Value} {res : Value} (h : Ct f args res) : Cm f args res := fun W _ => h W
end Go.Proofs.YtalahdkgigcpfaaDoor
