/- NuA. -/
import Derived.Test.YtalahdkgigcpfaaDoorG04
namespace Go.Proofs.YtalahdkgigcpfaaDoor
open Go.RowKit

theorem one_l (l a : Int) : Ct 97 #[.int .i64 l, .int .i64 a] (.int .i64 (if a ≤ l then 1 else 2)) := by
  refine hide (fun W => ?_)
  by_cases h : a ≤ l
  · rw [if_pos h]
    go_enter Tryd.func97, Tryd.ntmps97
    go_wp2_with fail
    go_ret
    exact ⟨rfl, Below.refl _ _⟩
  · rw [if_neg h]
    go_enter Tryd.func97, Tryd.ntmps97
    go_wp2_with fail
    go_ret
    exact ⟨rfl, Below.refl _ _⟩
set_option maxHeartbeats 4000000 in
set_option maxRecDepth 100000 in
theorem types_0 (f n o a : Int) : Ct 82 #[.agg #[.int .i64 f, .int .i64 n, .int .i64 0, .int .u8 o], .int .i64 a] (.agg #[.int .u8 o, .int .u8 127]) := by
  refine hide (fun W => ?_)
  go_enter Tryd.func82, Tryd.ntmps82
  go_wp2_with fail
  exact bodyPost_ret (v := .agg #[.int .u8 o, .int .u8 127]) (by simp [results, Tryd.results82, go_sem]) rfl ⟨rfl, below2 _ _ _⟩
set_option maxHeartbeats 4000000 in
set_option maxRecDepth 100000 in
theorem types_1 (f n o a : Int) : Ct 82 #[.agg #[.int .i64 f, .int .i64 n, .int .i64 1, .int .u8 o], .int .i64 a] (.agg #[.int .u8 o, .int .u8 127]) := by
  refine hide (fun W => ?_)
  go_enter Tryd.func82, Tryd.ntmps82
  go_wp2_with fail
  exact bodyPost_ret (v := .agg #[.int .u8 o, .int .u8 127]) (by simp [results, Tryd.results82, go_sem]) rfl ⟨rfl, below2 _ _ _⟩
set_option maxHeartbeats 4000000 in
set_option maxRecDepth 100000 in
theorem types_2 (f n o a : Int) : Ct 82 #[.agg #[.int .i64 f, .int .i64 n, .int .i64 2, .int .u8 o], .int .i64 a] (.agg #[.int .u8 o, .int .u8 o]) := by
  refine hide (fun W => ?_)
  go_enter Tryd.func82, Tryd.ntmps82
  go_wp2_with fail
  exact bodyPost_ret (v := .agg #[.int .u8 o, .int .u8 o]) (by simp [results, Tryd.results82, go_sem]) rfl ⟨rfl, below2 _ _ _⟩
set_option maxHeartbeats 4000000 in
set_option maxRecDepth 100000 in
theorem types_3 (f n o a : Int) : Ct 82 #[.agg #[.int .i64 f, .int .i64 n, .int .i64 3, .int .u8 o], .int .i64 a] (.agg #[.int .u8 o, .int .u8 o]) := by
  refine hide (fun W => ?_)
  go_enter Tryd.func82, Tryd.ntmps82
  go_wp2_with fail
  exact bodyPost_ret (v := .agg #[.int .u8 o, .int .u8 o]) (by simp [results, Tryd.results82, go_sem]) rfl ⟨rfl, below2 _ _ _⟩
set_option maxHeartbeats 4000000 in
set_option maxRecDepth 100000 in
theorem types_4 (f n o : Int) {x y : Int} {a : Nat} (h : a < 25) (hx : cL[a * 2]? = some (.int .u8 x)) (hy : cL[a * 2 + 1]? = some (.int .u8 y)) : Cm 82 #[.agg #[.int .i64 f, .int .i64 n, .int .i64 4, .int .u8 o], .int .i64 (a : Int)] (.agg #[.int .u8 x, .int .u8 y]) := by
  refine hide (fun W m => ?_)
  have c0 := fun o1 o2 => keep1 (below2 W o1 o2) (lt_of_cell (m.changed _ _ hx)) (m.changed _ _ hx)
  have c1 := fun o1 o2 => keep1 (below2 W o1 o2) (lt_of_cell (m.changed _ _ hy)) (m.changed _ _ hy)
  clear hx hy m
  go_enter Tryd.func82, Tryd.ntmps82
  go_wp2_with fail
  exact bodyPost_ret (v := .agg #[.int .u8 x, .int .u8 y]) (by simp [results, Tryd.results82, go_sem]) rfl ⟨rfl, below2 _ _ _⟩
set_option maxHeartbeats 4000000 in
set_option maxRecDepth 100000 in
theorem types_5 (f n o : Int) {x y : Int} {a : Nat} (h : a < 8) (hx : sL[a * 2]? = some (.int .u8 x)) (hy : sL[a * 2 + 1]? = some (.int .u8 y)) : Cm 82 #[.agg #[.int .i64 f, .int .i64 n, .int .i64 5, .int .u8 o], .int .i64 (a : Int)] (.agg #[.int .u8 x, .int .u8 y]) := by
  refine hide (fun W m => ?_)
  have c0 := fun o1 o2 => keep1 (below2 W o1 o2) (lt_of_cell (m.stopped _ _ hx)) (m.stopped _ _ hx)
  have c1 := fun o1 o2 => keep1 (below2 W o1 o2) (lt_of_cell (m.stopped _ _ hy)) (m.stopped _ _ hy)
  clear hx hy m
  go_enter Tryd.func82, Tryd.ntmps82
  go_wp2_with fail
  exact bodyPost_ret (v := .agg #[.int .u8 x, .int .u8 y]) (by simp [results, Tryd.results82, go_sem]) rfl ⟨rfl, below2 _ _ _⟩
end Go.Proofs.YtalahdkgigcpfaaDoor
