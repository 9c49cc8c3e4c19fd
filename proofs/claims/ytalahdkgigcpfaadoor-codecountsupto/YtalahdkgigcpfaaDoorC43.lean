/- CeG. -/
import Derived.Test.YtalahdkgigcpfaaDoorC37
import Derived.Test.YtalahdkgigcpfaaDoorC39
import Derived.Test.YtalahdkgigcpfaaDoorC41
import Derived.RangeFuncNested
import Derived.RangeFuncBound
import Derived.RangeFuncCalls
import Derived.RangeFuncLeaves
import Derived.Shelf.Abstract
import Derived.WalkKit
import Derived.OwnWalkIn
import Derived.TacticsInMore
import Derived.LoopNIn
import Derived.LoopIn
namespace Go.Proofs.YtalahdkgigcpfaaDoor
open Go.RowKit
attribute [local go_sem] Oper.semAt_some

/-- How deep one lies, as it is told. -/
def dm (q : Nat × Int) : Nat := q.1 + (if 2 ≤ q.2 ∧ q.2 ≤ 4 then 1 else 0)
def dM (l : List (Nat × Int)) : Nat := l.foldl (fun m q => max m (dm q)) 0
theorem dM_snoc (l : List (Nat × Int)) (q : Nat × Int) : dM (l ++ [q]) = max (dM l) (dm q) := by simp [dM]
theorem dM_from (l : List (Nat × Int)) : ∀ m : Nat, l.foldl (fun m q => max m (dm q)) m = max m (dM l) := by
  induction l with
  | nil => intro m; simp [dM]
  | cons q l ih => intro m; unfold dM; rw [List.foldl_cons, List.foldl_cons, ih, ih]; omega
theorem dM_app (l k : List (Nat × Int)) : dM (l ++ k) = max (dM l) (dM k) := by
  rw [dM, List.foldl_append, dM_from]
  rfl
theorem dM_cons (q : Nat × Int) (l : List (Nat × Int)) : dM (q :: l) = max (dm q) (dM l) := by
  rw [dM, List.foldl_cons, dM_from]
  omega
theorem Fo.dep_nil : ∀ {T : Fo}, T.len = 0 → T.dep = 0
  | .nil, _ => rfl
  | .cons h t e r, q => by simp [Fo.len] at q
theorem dM_dep : ∀ (T : Fo) (b : Nat), dM (tellP b T) = if T.len = 0 then 0 else T.dep + b
  | .nil, b => rfl
  | .cons h t e r, b => by
    have h1 := dM_dep t (b + 1)
    have h2 := dM_dep e (b + 1)
    have h3 := dM_dep r b
    have z1 := @Fo.dep_nil t
    have z2 := @Fo.dep_nil e
    have z3 := @Fo.dep_nil r
    show dM ((b, h.op) :: (tellP (b + 1) t ++ tellP (b + 1) e ++ tellP b r)) = _
    rw [dM_cons, dM_app, dM_app, h1, h2, h3, if_neg (show ¬ (Fo.cons h t e r).len = 0 by show ¬ r.len + 1 = 0; omega)]
    show _ = max (if max t.dep e.dep > 0 ∨ t.len + e.len > 0 ∨ (2 ≤ h.op ∧ h.op ≤ 4) then max t.dep e.dep + 1 else max t.dep e.dep) r.dep + b
    unfold dm
    simp only
    generalize t.dep = td at *
    generalize e.dep = ed at *
    generalize r.dep = rd at *
    generalize t.len = tl at *
    generalize e.len = el at *
    generalize r.len = rl at *
    clear h1 h2 h3
    by_cases q : 2 ≤ h.op ∧ h.op ≤ 4
    · rw [if_pos q, if_pos (Or.inr (Or.inr q))]
      repeat' split
      all_goals omega
    · rw [if_neg q]
      by_cases q1 : tl = 0
      · by_cases q2 : el = 0
        · have y1 := z1 q1
          have y2 := z2 q2
          have n : ¬ (max td ed > 0 ∨ tl + el > 0 ∨ (2 ≤ h.op ∧ h.op ≤ 4)) := by
            rintro (k | k | k)
            · omega
            · omega
            · exact q k
          rw [if_neg n, if_pos q1, if_pos q2]
          split <;> omega
        · rw [if_neg q2, if_pos q1, if_pos (Or.inr (Or.inl (by omega)))]
          split <;> omega
      · rw [if_neg q1, if_pos (Or.inr (Or.inl (by omega)))]
        repeat' split
        all_goals omega
set_option maxHeartbeats 8000000 in
set_option maxRecDepth 100000 in
theorem depth_any {T : Fo} {P : Nat → Prop} {v : Value} {W : World} (hw : Lw T) (hF0 : Fov W P T v) (hb : T.size ≤ 4000000) (hM : Mk W) : Calls Tryd.prog 18 #[v] W fun r W' => r = .returned (.int .i64 (T.dep : Int)) ∧ Below W.heap.size W W' := by
  have hF := hF0.mono (P' := fun b => b < W.heap.size) (fun b h1 _ => h1)
  clear hF0
  obtain ⟨a, cap, rfl⟩ := hF.slc
  refine (callsIn_wide (n := 5)).1 ?_
  refine callsIn_of_wp_marks Tryd.func18 rfl trivial ?_ rfl
  simp only [Tryd.ntmps18, List.size_toArray, List.length_cons, List.length_nil, Nat.reduceAdd, Nat.reduceSub, Array.replicate_succ, Array.replicate_zero, List.push_toArray, List.append_toArray, List.nil_append, List.cons_append]
  gi_wp2
  refine ⟨trivial, callsIn_wide.2 ((all_any _ a T.len cap rfl _).mono ?_)⟩
  rintro e w2 ⟨rfl, rfl⟩
  have hbB := below2 W (.cells #[.int .i64 0] 3) (.cells #[.slice a T.len cap] 29)
  have c0 : ((W.alloc (.cells #[.int .i64 0] 3)).alloc (.cells #[.slice a T.len cap] 29)).cell? ⟨W.heap.size, 0, none⟩ = some (.int .i64 0) := by simp [go_sem]
  have f0 : ((W.alloc (.cells #[.int .i64 0] 3)).alloc (.cells #[.slice a T.len cap] 29)).frozen? ⟨W.heap.size, 0, none⟩ = false := by simp [go_sem]
  have c1 : ((W.alloc (.cells #[.int .i64 0] 3)).alloc (.cells #[.slice a T.len cap] 29)).cell? ⟨W.heap.size + 1, 0, none⟩ = some (.slice a T.len cap) := by simp [go_sem]
  have hz2 : ((W.alloc (.cells #[.int .i64 0] 3)).alloc (.cells #[.slice a T.len cap] 29)).heap.size = W.heap.size + 2 := by simp
  have hFw := hF.fr (Fr.of hbB []) (by simp)
  gi_wp2
  (try rw [show (W.alloc (.cells #[.int .i64 0] 3)).heap.size = W.heap.size + 1 by simp])
  generalize (W.alloc (.cells #[.int .i64 0] 3)).alloc (.cells #[.slice a T.len cap] 29) = w2 at *
  refine wpIn_rangeFunc_ownH rfl (by omega) (gf := 40) (lb := #[.pointer (some ⟨W.heap.size + 1, 0, none⟩)]) rfl trivial (enters_of Tryd.func40 (by kernel_rfl) rfl)
    (all_stops (L := [W.heap.size]) (by simp) (by simp; omega) 4 (W.heap.size + 1) T _ hw hFw (by omega) w2 (Kc.refl _ _) c1) (fun h k => h.trans k) (fun V l o o' _ h hc _ => kc_b _ V l o o' h hc) (Below.refl _ _) (fun _ => rfl)
    (fun pre V => (V.cell? ⟨W.heap.size, 0, none⟩ = some (.int .i64 (dM (pre.map bop) : Int)) ∧ V.frozen? ⟨W.heap.size, 0, none⟩ = false) ∧ Below W.heap.size W V)
    (fun _ _ V => False ∧ Below W.heap.size W V)
    (OwnFrom.and (Own.from (fun s A B row hs hg hr => ⟨cell_kept hs.1 hg hr, (frozen_kept hs.1 hg hr).trans hs.2⟩) _) (ownFrom_below (Nat.le_refl _) (by omega)))
    (fun c => OwnFrom.and (Own.from (fun s A B row hs hg hr => hs) _) (ownFrom_below (Nat.le_refl _) (by omega)))
    ⟨⟨c0, f0⟩, hbB⟩
    (fun x a' V => ∃ Bx, W.heap.size < Bx ∧ V.cell? ⟨Bx, 0, none⟩ = some (.int .i64 x.1.op) ∧ a' = { tmps := #[.slice a T.len cap, undef, .int .i64 0, .pointer (some ⟨W.heap.size, 0, none⟩), .int .i64 (x.1.b : Int), .pointer (some ⟨Bx, 0, none⟩), undef, undef, .slice a T.len cap, .func (.func 40) #[] #[.pointer (some ⟨W.heap.size + 1, 0, none⟩)], .int .i64 (x.1.b : Int), x.1.agg, undef, undef, undef, undef, undef, undef, undef, undef, undef, undef, undef, undef, undef, undef], defers := [] })
    (fun x a' _ X Y row hs hg hr => by obtain ⟨Bx, h1, h2, h3⟩ := hs; exact ⟨Bx, h1, cell_kept h2 hg (fun r e => (hr r e).2), h3⟩)
    ?assign ?body ?done ?stop
  case assign =>
    rintro l pre ⟨⟨b, op, ty, aa, bb, bits, li, has, t, e, l1, l3, t1, t3, e1, e3⟩, hg⟩ V K ⟨⟨hc, hf⟩, hB⟩ hK
    have hlt := lt_of_cell hc
    dsimp only [en, It.agg] at hK ⊢
    gi_wp2
    refine hK _ _ ((KeepsOthers.alloc _ _).from _) (Kc.alloc _ _ _) ⟨⟨cell_kept hc (World.grownBy_alloc V _ none) (fun r e => by cases e), (frozen_kept hc (World.grownBy_alloc V _ none) (fun r e => by cases e)).trans hf⟩, hB.alloc (by omega) _⟩ ⟨V.heap.size, hlt, ?_, rfl⟩
    simp [go_sem]
  case body =>
    rintro l pre x a' V hl ⟨r, hr⟩ ⟨⟨hc, hf⟩, hB⟩ ⟨Bx, hBx, hX, rfl⟩ hlen
    have hMV := hM.below hB
    have hxb := x.2.1.1
    have hC := unhide (imm_any x.1.op x.2.1.2) V hMV
    have iw : IntKind.i64.wrap ((x.1.b : Int) + 1) = (x.1.b : Int) + 1 := i64_id (by omega) (by omega)
    gi_wp2
    refine ⟨trivial, CallsIn.inRound l (callsIn_wide.2 (hC.mono ?_))⟩
    rintro e V2 ⟨rfl, hb2⟩
    have hlt := lt_of_cell hc
    have hBV := hB.trans (hb2.mono hB.size)
    have hlX := lt_of_cell hX
    have hc2 := keep1 hb2 hlt hc
    have hf2 : V2.frozen? ⟨W.heap.size, 0, none⟩ = false := (hb2.frozen hlt).trans hf
    have hX2 := keep1 hb2 hlX hX
    have hsz := hb2.size
    have HL : Hid (∀ m : Int, m = (dM ((pre ++ [x]).map bop) : Int) → KeepsFrom (W.heap.size + 2) V (V2.setCell ⟨W.heap.size, 0, none⟩ (.int .i64 m)) ∧ Kc [W.heap.size] V (V2.setCell ⟨W.heap.size, 0, none⟩ (.int .i64 m)) ∧ (((V2.setCell ⟨W.heap.size, 0, none⟩ (.int .i64 m)).cell? ⟨W.heap.size, 0, none⟩ = some (.int .i64 (dM ((pre ++ [x]).map bop) : Int)) ∧ (V2.setCell ⟨W.heap.size, 0, none⟩ (.int .i64 m)).frozen? ⟨W.heap.size, 0, none⟩ = false) ∧ Below W.heap.size W (V2.setCell ⟨W.heap.size, 0, none⟩ (.int .i64 m)))) := hide fun m hm => by
      subst hm
      exact ⟨(⟨hsz, fun k o _ hk _ => (hb2.block k (Array.getElem?_eq_some_iff.1 hk).1).trans hk⟩ : KeepsFrom _ V V2).trans ((KeepsOthers.setCell _ _ _).from _), Kc.of ((Fr.of hb2 [W.heap.size]).place _ _), ⟨World.cell?_setCell_same _ _ _ hc2, by rw [frozen_set]; exact hf2⟩, hBV.setCell (p := ⟨W.heap.size, 0, none⟩) (Nat.le_refl _) _⟩
    have HD : Hid (dM ((pre ++ [x]).map bop) = max (dM (pre.map bop)) (dm (x.1.b, x.1.op))) := hide (by rw [List.map_append, List.map_cons, List.map_nil, dM_snoc]; rfl)
    clear hr hBV hsz hB hl
    by_cases hq : 2 ≤ x.1.op ∧ x.1.op ≤ 4
    · have HQ : Hid (dm (x.1.b, x.1.op) = x.1.b + 1) := hide (by unfold dm; rw [if_pos hq])
      rw [low_block hq]
      gi_wp2
      all_goals
        have h1 := unhide HD
        have h2 := unhide HQ
        exact unhide HL _ (by omega)
    · have HQ : Hid (dm (x.1.b, x.1.op) = x.1.b) := hide (by unfold dm; rw [if_neg hq]; rfl)
      have hn : ¬ imI x.1.op = 1 := fun k => hq (imI_1 k)
      gi_wp2
      all_goals
        have h1 := unhide HD
        have h2 := unhide HQ
        exact unhide HL _ (by omega)
  case done =>
    rintro D ys V hD hys ⟨⟨hc, hf⟩, hB⟩ hK
    have hl : dM (ys.map bop) = T.dep := by
      rw [hys, dM_dep]
      by_cases q : T.len = 0
      · rw [if_pos q, Fo.dep_nil q]
      · rw [if_neg q]; rfl
    gi_wp2
    refine ⟨by simp, .inl ⟨_, _, rfl, run_takeDeferred hK, ?_⟩⟩
    exact ⟨_, results_tmp rfl _ _ _, by show Ending.returned (Value.int .i64 (dM (tellP 0 T) : Int)) = _; rw [← hys, hl], hB.trans (belowK_b (w := W) (Nat.le_refl _) V D _ _ (by omega) hK rfl rfl)⟩
  case stop =>
    rintro D c pre V hD _ h _
    exact h.1.elim
end Go.Proofs.YtalahdkgigcpfaaDoor
