/- WRefE. -/
import Derived.Test.YtmbkpmcmhmldgaaO11
import Derived.Deep.Cut
namespace Go.Proofs.Ytmbkpmcmhmldgaa.W
open Go.RowKit

/-- The digits as values. -/
def vals (D : List Nat) : List Value := D.map fun d : Nat => Value.int .u64 (d : Int)
theorem vals_snoc (D : List Nat) (d : Nat) : vals D ++ [.int .u64 (d : Int)] = vals (D ++ [d]) := by simp [vals]
/-- An owned row of digits holds them. -/
theorem holds_of_owns {w : World} {base : Nat} {v : Value} {D : List Nat} (h : w.ownsRow base 24 1 v D.length (vals D)) (hcap : D.length ≤ 1000000) : Holds w v D := by
  obtain ⟨h1, h2⟩ := h
  rcases h2 with ⟨h2, h3⟩ | ⟨g, cap, cur, h2, h3, h4, h5, h6, h7, h8⟩
  · exact Or.inl ⟨h2, List.eq_nil_of_length_eq_zero h3⟩
  · refine Or.inr ⟨g, cap, h2, ?_, h5, hcap, fun i hi => ?_⟩
    · rw [Array.getElem?_eq_some_iff] at h4; exact h4.1
    · have := World.ownsRow.cellAt (w := w) (base := base) (e := 24) (size := 1) (g := g) (n := D.length) (cap := cap) (xs := vals D) ⟨h1, Or.inr ⟨g, cap, cur, rfl, h3, h4, h5, h6, h7, h8⟩⟩ i (by omega)
      rw [this]
      unfold vals dg
      rw [List.getElem?_map, List.getD_eq_getElem?_getD, List.getElem?_eq_getElem hi]
      rfl

theorem i22 : Try.prog.info? 24 = some ((Try.prog.info? 24).getD default) := by kernel_rfl
theorem base_le {B : Nat} {w : World} (h : B ≤ w.heap.size) (o : Obj) : B ≤ (w.alloc o).heap.size := by simp; omega
theorem one_cell (x : Int) : ∀ u ∈ [Value.int .u64 x], u.oneCell' = true := by
  intro u hu
  simp at hu
  subst hu
  rfl

theorem mod_pw_succ (x k : Nat) : x % pw (k + 1) = x % pw k + dgt x k * pw k := by
  unfold dgt
  rw [pw_succ, Nat.mod_mul, Nat.mul_comm (pw k)]
/-- A digit more in an owned row. -/
theorem append_round {wq w1 W0 : World} {B : Nat} {v v' : Value} {D : List Nat} {sm : Nat} {o : Obj} (hO : wq.ownsRow B 24 1 v D.length (vals D)) (hB : Below B W0 wq) (hL : B ≤ wq.heap.size)
    (hown : w1.ownsRow B 24 1 v' (D.length + 1) (vals D ++ [.int .u64 ((sm : Int) % 4294967296)])) (hgr : (wq.alloc o).grownBy w1 v.ownBlock) :
    w1.ownsRow B 24 1 v' (D ++ [sm % 4294967296]).length (vals (D ++ [sm % 4294967296])) ∧ Below B W0 w1 := by
  constructor
  · rw [← vals_snoc, List.length_append, List.length_singleton]
    rw [Int.natCast_emod]
    exact hown
  · exact (hB.alloc hL o).grown hgr (base_le hL o) (fun k hk => (hO.lt k hk).1)

end Go.Proofs.Ytmbkpmcmhmldgaa.W
