/- CeF. -/
import Derived.Test.YtalahdkgigcpfaaDoorC34
import Derived.RangeFuncNested
import Derived.RangeFuncBound
import Derived.RangeFuncCalls
import Derived.RangeFuncLeaves
import Derived.Shelf.Abstract
import Derived.WalkKit
import Derived.OwnWalkIn
import Derived.TacticsInMore
import Derived.LoopNIn
import Derived.LoopIn
namespace Go.Proofs.YtalahdkgigcpfaaDoor
open Go.RowKit
attribute [local go_sem] Oper.semAt_some

set_option maxHeartbeats 8000000 in
set_option maxRecDepth 100000 in
theorem size_any {T : Fo} {P : Nat → Prop} {v : Value} {W : World} (hw : Lw T) (hF0 : Fov W P T v) (hb : T.size ≤ 4000000) : Calls Tryd.prog 16 #[v] W fun r W' => r = .returned (.int .i64 (T.size : Int)) ∧ Below W.heap.size W W' := by
  have hF := hF0.mono (P' := fun b => b < W.heap.size) (fun b h1 _ => h1)
  clear hF0
  obtain ⟨a, cap, rfl⟩ := hF.slc
  refine (callsIn_wide (n := 5)).1 ?_
  refine callsIn_of_wp_marks Tryd.func16 rfl trivial ?_ rfl
  simp only [Tryd.ntmps16, List.size_toArray, List.length_cons, List.length_nil, Nat.reduceAdd, Nat.reduceSub, Array.replicate_succ, Array.replicate_zero, List.push_toArray, List.append_toArray, List.nil_append, List.cons_append]
  gi_wp2
  refine ⟨trivial, callsIn_wide.2 ((all_any _ a T.len cap rfl _).mono ?_)⟩
  rintro e w2 ⟨rfl, rfl⟩
  have hbB := below2 W (.cells #[.int .i64 0] 3) (.cells #[.slice a T.len cap] 29)
  have c0 : ((W.alloc (.cells #[.int .i64 0] 3)).alloc (.cells #[.slice a T.len cap] 29)).cell? ⟨W.heap.size, 0, none⟩ = some (.int .i64 0) := by simp [go_sem]
  have f0 : ((W.alloc (.cells #[.int .i64 0] 3)).alloc (.cells #[.slice a T.len cap] 29)).frozen? ⟨W.heap.size, 0, none⟩ = false := by simp [go_sem]
  have c1 : ((W.alloc (.cells #[.int .i64 0] 3)).alloc (.cells #[.slice a T.len cap] 29)).cell? ⟨W.heap.size + 1, 0, none⟩ = some (.slice a T.len cap) := by simp [go_sem]
  have hz2 : W.heap.size + 2 ≤ ((W.alloc (.cells #[.int .i64 0] 3)).alloc (.cells #[.slice a T.len cap] 29)).heap.size := by simp
  have hFw := hF.fr (Fr.of hbB []) (by simp)
  gi_wp2
  (try rw [show (W.alloc (.cells #[.int .i64 0] 3)).heap.size = W.heap.size + 1 by simp])
  generalize (W.alloc (.cells #[.int .i64 0] 3)).alloc (.cells #[.slice a T.len cap] 29) = w2 at *
  refine wpIn_rangeFunc_ownF rfl (by omega) (gf := 40) (lb := #[.pointer (some ⟨W.heap.size + 1, 0, none⟩)]) rfl trivial (enters_of Tryd.func40 (by kernel_rfl) rfl)
    (all_stops (L := [W.heap.size]) (by simp) (by simp; omega) 4 (W.heap.size + 1) T _ hw hFw (by omega) w2 (Kc.refl _ _) c1) (fun h k => h.trans k) (fun V l o o' _ h hc _ => kc_b _ V l o o' h hc) (Below.refl _ _) (fun _ => rfl)
    (fun pre V => (V.cell? ⟨W.heap.size, 0, none⟩ = some (.int .i64 (pre.length : Int)) ∧ V.frozen? ⟨W.heap.size, 0, none⟩ = false) ∧ Below W.heap.size W V)
    (fun _ _ V => False ∧ Below W.heap.size W V)
    (OwnFrom.and (Own.from (fun s A B row hs hg hr => ⟨cell_kept hs.1 hg hr, (frozen_kept hs.1 hg hr).trans hs.2⟩) _) (ownFrom_below (Nat.le_refl _) (by omega)))
    (fun c => OwnFrom.and (Own.from (fun s A B row hs hg hr => hs) _) (ownFrom_below (Nat.le_refl _) (by omega)))
    ⟨⟨c0, f0⟩, hbB⟩
    (fun x => { tmps := #[.slice a T.len cap, undef, .int .i64 0, .pointer (some ⟨W.heap.size, 0, none⟩), .slice a T.len cap, .func (.func 40) #[] #[.pointer (some ⟨W.heap.size + 1, 0, none⟩)], .int .i64 (x.1.b : Int), x.1.agg, undef, undef, undef], defers := [] }) ?assign ?body ?done ?stop
  case assign =>
    intro l x V K hK
    dsimp only [en]
    gi_wp2
    simpa using hK
  case body =>
    rintro l pre x V ⟨⟨hc, hf⟩, hB⟩ hlen
    have iw : IntKind.i64.wrap ((pre.length : Int) + 1) = (pre.length : Int) + 1 := i64_id (by omega) (by omega)
    gi_wp2
    exact ⟨KeepsOthers.setCell _ _ _, Kc.of ((Fr.refl [W.heap.size] V).place _ _), ⟨by rw [World.cell?_setCell_same _ _ _ hc]; simp, by rw [frozen_set]; exact hf⟩, hB.setCell (p := ⟨W.heap.size, 0, none⟩) (Nat.le_refl _) _⟩
  case done =>
    rintro D ys V hD hys ⟨⟨hc, hf⟩, hB⟩ hK
    have hl : ys.length = T.size := by rw [← tellP_len 0, ← hys, List.length_map]
    gi_wp2
    refine ⟨by simp, .inl ⟨_, _, rfl, run_takeDeferred hK, ?_⟩⟩
    exact ⟨_, results_tmp rfl _ _ _, by rw [← hl]; rfl, hB.trans (belowK_b (w := W) (Nat.le_refl _) V D _ _ (by omega) hK rfl rfl)⟩
  case stop =>
    rintro D c pre V hD _ h _
    exact h.1.elim
end Go.Proofs.YtalahdkgigcpfaaDoor
