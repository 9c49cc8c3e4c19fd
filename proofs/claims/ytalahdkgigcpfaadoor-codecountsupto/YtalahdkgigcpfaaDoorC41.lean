/- CdN. -/
import Derived.Test.YtalahdkgigcpfaaDoorC39
namespace Go.Proofs.YtalahdkgigcpfaaDoor
open Go.RowKit

def Fo.dep : Fo → Nat
  | .nil => 0
  | .cons h t e r => max (if max t.dep e.dep > 0 ∨ t.len + e.len > 0 ∨ (2 ≤ h.op ∧ h.op ≤ 4) then max t.dep e.dep + 1 else max t.dep e.dep) r.dep
theorem Fo.dep_app : ∀ T U : Fo, (T.app U).dep = max T.dep U.dep
  | .nil, U => by simp [Fo.app, Fo.dep]
  | .cons h t e r, U => by rw [Fo.app, Fo.dep, Fo.dep, r.dep_app, Nat.max_assoc]
/-- No list is too long, for what was read. -/
def Lk : Fo → Prop
  | .nil => True
  | .cons h t e r => h.op ≤ 9223372036854775807 ∧ h.list.length ≤ 4096 ∧ Lk t ∧ Lk e ∧ Lk r
/-- What holds of instructions that were read. -/
structure Red (deep : Nat) (may : Bool) (l : List Int) (x : (Fo × Bool) × Nat × Int) : Prop where
  size : x.1.1.size + 1 ≤ x.2.1
  lk : Lk x.1.1
  dep : x.1.1.dep + deep ≤ 64
  last : may = false → x.1.2 = false ∧ l.getD (x.2.1 - 1) 0 = 11
/-- What holds of one that was read. -/
structure Rei (deep : Nat) (op : Int) (x : In × Nat × Int) : Prop where
  size : x.1.2.1.size + x.1.2.2.size ≤ x.2.1
  list : x.1.1.list.length ≤ 4096
  lk : Lk x.1.2.1 ∧ Lk x.1.2.2
  opq : x.1.1.op = op
  blk : imI op = 1 → x.1.2.1.dep + deep + 1 ≤ 64 ∧ x.1.2.2.dep + deep + 1 ≤ 64
  non : imI op ≠ 1 → x.1.2.1 = .nil ∧ x.1.2.2 = .nil
theorem low_block {op : Int} (h : 2 ≤ op ∧ op ≤ 4) : imI op = 1 := by
  have : op = 2 ∨ op = 3 ∨ op = 4 := by omega
  rcases this with rfl | rfl | rfl <;> decide
end Go.Proofs.YtalahdkgigcpfaaDoor
