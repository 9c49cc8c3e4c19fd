/- Package sum's Total, and the statement SumTotals: their walks, over any list. -/
import Derived.Test.YtlkmongiknpejaaSumD
import Derived.LoopTactic
namespace Go.Proofs.Ytlkmongiknpejaa
open Go.RowKit

/-- One by one. -/
def sums (A : Int → Int → Int) (zs : List Int) : Int := zs.foldl A 0
theorem sums_step (A : Int → Int → Int) (zs : List Int) (k : Nat) (hk : k < zs.length) : sums A (zs.take (k + 1)) = A (sums A (zs.take k)) (zs.getD k 0) := by
  unfold sums
  rw [List.take_add_one, List.foldl_append]
  simp [List.getD, List.getElem?_eq_getElem hk]
/-- A word. -/
def Wrd (x : Int) : Prop := 0 ≤ x ∧ x < 18446744073709551616
theorem sums_wrd {A : Int → Int → Int} (hA : ∀ s z, Wrd s → Wrd z → Wrd (A s z)) {zs : List Int} (hz : ∀ z ∈ zs, Wrd z) (k : Nat) : Wrd (sums A (zs.take k)) := by
  have : ∀ (l : List Int) (s : Int), Wrd s → (∀ z ∈ l, Wrd z) → Wrd (l.foldl A s) := by
    intro l
    induction l with
    | nil => exact fun s hs _ => hs
    | cons x xs ih => exact fun s hs h => ih _ (hA s x hs (h x (by simp))) (fun z hz => h z (by simp [hz]))
  exact this _ 0 ⟨by omega, by omega⟩ (fun z hm => hz z (List.mem_of_mem_take hm))
/-- The numbers of a list that came in. -/
def Rd (W : World) (a : Option Addr) (len : Nat) (zs : List Int) : Prop := len = zs.length ∧ ∀ j, j < len → ∃ b off, a = some ⟨b, off, none⟩ ∧ W.cell? ⟨b, off + j, none⟩ = some (.int .u64 (zs.getD j 0))
theorem Rd.below {W W' : World} {a : Option Addr} {len : Nat} {zs : List Int} (h : Rd W a len zs) (hb : Below W.heap.size W W') : Rd W' a len zs :=
  ⟨h.1, fun j hj => by
    obtain ⟨b, off, ha, hc⟩ := h.2 j hj
    exact ⟨b, off, ha, keep1 hb (lt_of_cell hc) hc⟩⟩

end Go.Proofs.Ytlkmongiknpejaa
