/- PlusB. -/
import Derived.Test.YtafejbkjkbgocaaG22
namespace Go.Proofs.Ytafejbkjkbgocaa
open Go.RowKit

theorem at4_new2a (w : World) (x y z u : Value) (t : TypeId) (o : Obj) : At4 w.heap.size x y z u ((w.alloc (.cells #[x, y, z, u] t)).alloc o) := by unfold At4; simp [go_sem]
theorem at4_new2b (w : World) (o : Obj) (x y z u : Value) (t : TypeId) : At4 (w.heap.size + 1) x y z u ((w.alloc o).alloc (.cells #[x, y, z, u] t)) := by unfold At4; simp [go_sem]
end Go.Proofs.Ytafejbkjkbgocaa
