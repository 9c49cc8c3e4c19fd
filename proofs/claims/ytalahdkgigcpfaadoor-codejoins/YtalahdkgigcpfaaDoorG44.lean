/- CdS, CeG, CdT, CdU. -/
import Derived.Test.YtalahdkgigcpfaaDoorG39
import Derived.Test.YtalahdkgigcpfaaDoorG42
import Derived.Test.YtalahdkgigcpfaaDoorG43
import Derived.RangeFuncNested
import Derived.RangeFuncBound
import Derived.RangeFuncCalls
import Derived.RangeFuncLeaves
import Derived.Shelf.Abstract
import Derived.WalkKit
import Derived.OwnWalkIn
import Derived.TacticsInMore
import Derived.LoopNIn
import Derived.LoopIn
namespace Go.Proofs.YtalahdkgigcpfaaDoor
open Go.RowKit

/-- The contract of the document's sequence of less than n bytes. -/
def QSeq (c rb : Nat) (a : Option Addr) (len cap : Nat) (xs : List Int) (sat : Bool) (n : Nat) : Prop := ∀ (deep k : Nat) (e : Int) (may : Bool) (W : World), deep ≤ 64 → (e = 0 → len - k < n) → Rq c rb a len cap xs sat k e W →
  Calls Tryd.prog 27 #[.pointer (some ⟨rb, 0, none⟩), .int .i64 (deep : Int), .bool may] W fun r W' => ∃ p q s t' T t k' e', r = .returned (.tuple #[.slice p q s, .bool t']) ∧ Rd (sq sat deep may) xs k e (T, t) k' e' ∧ (e' = 0 → Fov W' (fun b => W.heap.size ≤ b) T (.slice p q s) ∧ t' = t) ∧ Rq c rb a len cap xs sat k' e' W' ∧ Fr [c] W W'
/-- The contract of the document's instruction. -/
def RInstrP (c rb : Nat) (a : Option Addr) (len cap : Nat) (xs : List Int) (sat may : Bool) (deep k : Nat) (e : Int) (W : World) : Prop :=
  Calls Tryd.prog 39 #[.pointer (some ⟨rb, 0, none⟩), .int .i64 (deep : Int)] W fun r W' => ∃ (h' : Hd) (l1 : Option Addr) (l2 l3 : Nat) (p1 : Option Addr) (q1 s1 : Nat) (p2 : Option Addr) (q2 s2 : Nat) (y : Int) (k1 : Nat) (e1 : Int) (i : In) (k' : Nat) (e' : Int), r = .returned (.agg #[.int .i64 h'.op, .int .u8 h'.ty, .int .u32 h'.a, .int .u32 h'.b, .int .u64 h'.bits, .slice l1 l2 l3, .slice p1 q1 s1, .slice p2 q2 s2, .bool h'.has]) ∧
    Rd (rOp sat may deep) xs k e y k1 e1 ∧ (e1 = 0 → ¬ (y = 5 ∨ y = 11)) ∧ Rd (rRest (sq sat) deep y) xs k1 e1 i k' e' ∧
    (e' = 0 → i.1 = h' ∧ Slc W' (fun b => W.heap.size ≤ b) h'.list.length (uCells h'.list) (.slice l1 l2 l3) ∧ Fov W' (fun b => W.heap.size ≤ b) i.2.1 (.slice p1 q1 s1) ∧ Fov W' (fun b => W.heap.size ≤ b) i.2.2 (.slice p2 q2 s2)) ∧ Rq c rb a len cap xs sat k' e' W' ∧ Fr [c] W W'
theorem nr_0 (W : World) : Nv W.heap.size W.heap.size (hcells (hd0 0) (.slice none 0 0) (.slice none 0 0) (.slice none 0 0)) (W.alloc (.cells #[.int .i64 0, .int .u8 0, .int .u32 0, .int .u32 0, .int .u64 0, .slice none 0 0, .slice none 0 0, .slice none 0 0, .bool false] 73)) := by
  have hr := room_cells (cs := hcells (hd0 0) (.slice none 0 0) (.slice none 0 0) (.slice none 0 0)) (t := 73) W 9 (Nat.le_refl _)
  refine ⟨fun j v hj => ?_, hr, Nat.le_refl _, by simp⟩
  rw [World.cell?_alloc_new]
  simpa [hcells, hd0] using hj
theorem nr_1 {N : Nat} (w : World) (hN : N ≤ w.heap.size) (y : Int) : Nv N w.heap.size (hcells (hd0 y) (.slice none 0 0) (.slice none 0 0) (.slice none 0 0)) (w.alloc (.cells #[.int .i64 y, .int .u8 0, .int .u32 0, .int .u32 0, .int .u64 0, .slice none 0 0, .slice none 0 0, .slice none 0 0, .bool false] 73)) := by
  have hr := room_cells (cs := hcells (hd0 y) (.slice none 0 0) (.slice none 0 0) (.slice none 0 0)) (t := 73) w 9 (Nat.le_refl _)
  refine ⟨fun j v hj => ?_, hr, hN, by simp⟩
  rw [World.cell?_alloc_new]
  simpa [hcells, hd0] using hj
theorem imI_low : imI 0 = 0 ∧ imI 1 = 0 ∧ imI 2 = 1 ∧ imI 3 = 1 ∧ imI 4 = 1 := by decide
theorem imI_1 {y : Int} (h : imI y = 1) : 2 ≤ y ∧ y ≤ 4 := by
  unfold imI at h
  by_cases hc : codL.contains y = true
  · rw [if_pos hc] at h
    have hm : y ∈ codL := by simpa using hc
    have key : ∀ x ∈ codL, immL.getD (codL.idxOf x) 0 = 1 → 2 ≤ x ∧ x ≤ 4 := by decide
    exact key y hm h
  · rw [if_neg hc] at h
    split at h
    · exact absurd h (by decide)
    · exact absurd h (by decide)
theorem imI_fc {n : Int} (h0 : 0 ≤ n) (h7 : n ≤ 7) : imI (64512 + n) = 0 := by
  have : n = 0 ∨ n = 1 ∨ n = 2 ∨ n = 3 ∨ n = 4 ∨ n = 5 ∨ n = 6 ∨ n = 7 := by omega
  rcases this with rfl | rfl | rfl | rfl | rfl | rfl | rfl | rfl <;> decide
/-- What is known of an opcode that was read: its byte, and that it is neither an end nor an else. -/
theorem rOpN_ok {sat : Bool} {xs : List Int} {k k1 : Nat} {e y : Int} (hB : Byt xs) (h : Rd (rOpN sat) xs k e y k1 0) : e = 0 ∧ k < xs.length ∧ k + 1 ≤ k1 ∧ y ≠ 5 ∧ y ≠ 11 ∧ 0 ≤ y ∧ y ≤ 9223372036854775807 ∧ (y = xs.getD k 0 ∧ imB y = true ∨ xs.getD k 0 = 252 ∧ sat = true ∧ imI y = 0) := by
  have he := h.zero rfl
  subst he
  obtain ⟨a1, a2⟩ := h.live rfl
  have hv := h.val rfl rfl
  by_cases hk : k < xs.length
  · refine ⟨rfl, hk, ?_⟩
    have hb := hB (xs.getD k 0) (by rw [List.getD_eq_getElem?_getD, List.getElem?_eq_getElem hk]; simp)
    have hr : rOpN sat (xs.drop k) = if (xs.getD k 0 == 252 && sat) = true then rFc (xs.drop k) else if (!imB (xs.getD k 0) || xs.getD k 0 == 5 || xs.getD k 0 == 11) = true then (0, 0, 108) else (xs.getD k 0, 1, 0) := by rw [dropk hk]; rfl
    rw [hr] at a1 a2 hv
    by_cases q : (xs.getD k 0 == 252 && sat) = true
    · rw [if_pos q] at a1 a2 hv
      have hp := rFc_pos a2.symm
      have hN : ∃ n, 0 ≤ n ∧ n ≤ 7 ∧ y = 64512 + n := by
        have h1 : (rB (xs.drop k)).2.2 = 0 := by rw [dropk hk]; rfl
        have hl1 : (xs.drop k).drop (rB (xs.drop k)).2.1 = xs.drop (k + 1) := by rw [dropk hk]; rfl
        unfold rFc at a2 hv
        rw [bd_ok h1, hl1] at a2 hv
        by_cases h2 : (rU 32 (xs.drop (k + 1))).2.2 = 0
        · rw [bd_ok h2] at a2 hv
          generalize hn : (rU 32 (xs.drop (k + 1))).1 = n at a2 hv
          cases hd : decide (n ≤ 7) with
          | false => rw [hd] at a2; exact absurd (show (0 : Int) = 108 from a2) (by decide)
          | true => rw [hd] at hv; exact ⟨n, by rw [← hn]; exact Int.emod_nonneg _ (by decide), by simpa using hd, hv⟩
        · rw [bd_no h2] at a2
          exact absurd a2.symm h2
      obtain ⟨n, n0, n7, rfl⟩ := hN
      simp only [Bool.and_eq_true, beq_iff_eq] at q
      exact ⟨by omega, by omega, by omega, by omega, by omega, .inr ⟨q.1, q.2, imI_fc n0 n7⟩⟩
    · rw [if_neg q] at a1 a2 hv
      by_cases q2 : (!imB (xs.getD k 0) || xs.getD k 0 == 5 || xs.getD k 0 == 11) = true
      · rw [if_pos q2] at a2; exact absurd a2 (by decide)
      · rw [if_neg q2] at a1 hv
        subst hv
        simp only [Bool.or_eq_true, Bool.not_eq_true', beq_iff_eq, not_or] at q2
        exact ⟨by have : k1 = k + 1 := a1; omega, q2.1.2, q2.2, hb.1, by omega, .inl ⟨rfl, by simpa using q2.1.1⟩⟩
  · rw [List.drop_eq_nil_of_le (by omega)] at a2
    exact absurd (show (0 : Int) = 100 from a2) (by decide)
/-- From the next opcode's reading to the sequence's. -/
theorem rOp_of_N {sat may : Bool} {deep : Nat} {xs : List Int} {k k1 : Nat} {e y e1 : Int} (h : Rd (rOpN sat) xs k e y k1 e1) (h11 : nxV xs k e ≠ 11) (h5 : ¬ (nxV xs k e = 5 ∧ may = true)) (hl : ¬ (2 ≤ nxV xs k e ∧ nxV xs k e ≤ 4 ∧ deep = 64)) : Rd (rOp sat may deep) xs k e y k1 e1 := by
  by_cases he : e = 0
  · refine h.of_eq ?_
    subst he
    by_cases hk : k < xs.length
    · rw [show nxV xs k 0 = xs.getD k 0 by unfold nxV; rw [if_pos ⟨rfl, hk⟩]] at h11 h5 hl
      rw [dropk hk]
      generalize xs.getD k 0 = b at *
      show (if (b == 252 && sat) = true then _ else if (!imB b || (b == 5 && !may)) = true then _ else if imI b = 1 ∧ deep = 64 then _ else _) = (if (b == 252 && sat) = true then _ else if (!imB b || b == 5 || b == 11) = true then _ else _)
      by_cases q : (b == 252 && sat) = true
      · rw [if_pos q, if_pos q]
      · rw [if_neg q, if_neg q]
        have e11 : (b == 11) = false := by simp [h11]
        have e5 : (b == 5) = (b == 5 && !may) := by
          by_cases q5 : b = 5
          · have : may = false := by cases may with | false => rfl | true => exact absurd ⟨q5, rfl⟩ h5
            rw [this]; simp
          · simp [q5]
        rw [e11, Bool.or_false, ← e5]
        split
        · rfl
        · rw [if_neg (fun hh => hl ⟨(imI_1 hh.1).1, (imI_1 hh.1).2, hh.2⟩)]
    · rw [List.drop_eq_nil_of_le (by omega)]; rfl
  · exact ⟨h.dead, fun q => absurd q he, fun q => absurd q he⟩
/-- In sixty-four blocks a block is one too many. -/
theorem rOp_limit {sat may : Bool} {xs : List Int} {k : Nat} (hk : k < xs.length) (h : 2 ≤ xs.getD k 0 ∧ xs.getD k 0 ≤ 4) (y : Int) : Rd (rOp sat may 64) xs k 0 y k 3 := by
  have key : ∀ b : Int, 2 ≤ b → b ≤ 4 → (b == 252) = false ∧ (b == 5) = false ∧ imB b = true ∧ imI b = 1 := by
    intro b h1 h2
    have : b = 2 ∨ b = 3 ∨ b = 4 := by omega
    rcases this with rfl | rfl | rfl <;> decide
  obtain ⟨q1, q2, q3, q4⟩ := key _ h.1 h.2
  have hr : rOp sat may 64 (xs.drop k) = (0, 0, 3) := by
    rw [dropk hk, rOp_cons, q1, q2, q3]
    rw [if_neg (by simp), if_neg (by simp), if_pos ⟨q4, rfl⟩]
  exact ⟨fun h => absurd rfl h, fun _ => by rw [hr]; exact ⟨rfl, rfl⟩, fun _ h => absurd h (by decide)⟩
end Go.Proofs.YtalahdkgigcpfaaDoor
namespace Go.Proofs.YtalahdkgigcpfaaDoor
open Go.RowKit
attribute [local go_sem] Oper.semAt_some

/-- How deep one lies, as it is told. -/
def dm (q : Nat × Int) : Nat := q.1 + (if 2 ≤ q.2 ∧ q.2 ≤ 4 then 1 else 0)
def dM (l : List (Nat × Int)) : Nat := l.foldl (fun m q => max m (dm q)) 0
theorem dM_snoc (l : List (Nat × Int)) (q : Nat × Int) : dM (l ++ [q]) = max (dM l) (dm q) := by simp [dM]
theorem dM_from (l : List (Nat × Int)) : ∀ m : Nat, l.foldl (fun m q => max m (dm q)) m = max m (dM l) := by
  induction l with
  | nil => intro m; simp [dM]
  | cons q l ih => intro m; unfold dM; rw [List.foldl_cons, List.foldl_cons, ih, ih]; omega
theorem dM_app (l k : List (Nat × Int)) : dM (l ++ k) = max (dM l) (dM k) := by
  rw [dM, List.foldl_append, dM_from]
  rfl
theorem dM_cons (q : Nat × Int) (l : List (Nat × Int)) : dM (q :: l) = max (dm q) (dM l) := by
  rw [dM, List.foldl_cons, dM_from]
  omega
theorem Fo.dep_nil : ∀ {T : Fo}, T.len = 0 → T.dep = 0
  | .nil, _ => rfl
  | .cons h t e r, q => by simp [Fo.len] at q
theorem dM_dep : ∀ (T : Fo) (b : Nat), dM (tellP b T) = if T.len = 0 then 0 else T.dep + b
  | .nil, b => rfl
  | .cons h t e r, b => by
    have h1 := dM_dep t (b + 1)
    have h2 := dM_dep e (b + 1)
    have h3 := dM_dep r b
    have z1 := @Fo.dep_nil t
    have z2 := @Fo.dep_nil e
    have z3 := @Fo.dep_nil r
    show dM ((b, h.op) :: (tellP (b + 1) t ++ tellP (b + 1) e ++ tellP b r)) = _
    rw [dM_cons, dM_app, dM_app, h1, h2, h3, if_neg (show ¬ (Fo.cons h t e r).len = 0 by show ¬ r.len + 1 = 0; omega)]
    show _ = max (if max t.dep e.dep > 0 ∨ t.len + e.len > 0 ∨ (2 ≤ h.op ∧ h.op ≤ 4) then max t.dep e.dep + 1 else max t.dep e.dep) r.dep + b
    unfold dm
    simp only
    generalize t.dep = td at *
    generalize e.dep = ed at *
    generalize r.dep = rd at *
    generalize t.len = tl at *
    generalize e.len = el at *
    generalize r.len = rl at *
    clear h1 h2 h3
    by_cases q : 2 ≤ h.op ∧ h.op ≤ 4
    · rw [if_pos q, if_pos (Or.inr (Or.inr q))]
      repeat' split
      all_goals omega
    · rw [if_neg q]
      by_cases q1 : tl = 0
      · by_cases q2 : el = 0
        · have y1 := z1 q1
          have y2 := z2 q2
          have n : ¬ (max td ed > 0 ∨ tl + el > 0 ∨ (2 ≤ h.op ∧ h.op ≤ 4)) := by
            rintro (k | k | k)
            · omega
            · omega
            · exact q k
          rw [if_neg n, if_pos q1, if_pos q2]
          split <;> omega
        · rw [if_neg q2, if_pos q1, if_pos (Or.inr (Or.inl (by omega)))]
          split <;> omega
      · rw [if_neg q1, if_pos (Or.inr (Or.inl (by omega)))]
        repeat' split
        all_goals omega
set_option maxHeartbeats 8000000 in
set_option maxRecDepth 100000 in
theorem depth_any {T : Fo} {P : Nat → Prop} {v : Value} {W : World} (hw : Lw T) (hF0 : Fov W P T v) (hb : T.size ≤ 4000000) (hM : Mk W) : Calls Tryd.prog 18 #[v] W fun r W' => r = .returned (.int .i64 (T.dep : Int)) ∧ Below W.heap.size W W' := by
  have hF := hF0.mono (P' := fun b => b < W.heap.size) (fun b h1 _ => h1)
  clear hF0
  obtain ⟨a, cap, rfl⟩ := hF.slc
  refine (callsIn_wide (n := 5)).1 ?_
  refine callsIn_of_wp_marks Tryd.func18 rfl trivial ?_ rfl
  simp only [Tryd.ntmps18, List.size_toArray, List.length_cons, List.length_nil, Nat.reduceAdd, Nat.reduceSub, Array.replicate_succ, Array.replicate_zero, List.push_toArray, List.append_toArray, List.nil_append, List.cons_append]
  gi_wp2
  refine ⟨trivial, callsIn_wide.2 ((all_any _ a T.len cap rfl _).mono ?_)⟩
  rintro e w2 ⟨rfl, rfl⟩
  have hbB := below2 W (.cells #[.int .i64 0] 3) (.cells #[.slice a T.len cap] 29)
  have c0 : ((W.alloc (.cells #[.int .i64 0] 3)).alloc (.cells #[.slice a T.len cap] 29)).cell? ⟨W.heap.size, 0, none⟩ = some (.int .i64 0) := by simp [go_sem]
  have f0 : ((W.alloc (.cells #[.int .i64 0] 3)).alloc (.cells #[.slice a T.len cap] 29)).frozen? ⟨W.heap.size, 0, none⟩ = false := by simp [go_sem]
  have c1 : ((W.alloc (.cells #[.int .i64 0] 3)).alloc (.cells #[.slice a T.len cap] 29)).cell? ⟨W.heap.size + 1, 0, none⟩ = some (.slice a T.len cap) := by simp [go_sem]
  have hz2 : ((W.alloc (.cells #[.int .i64 0] 3)).alloc (.cells #[.slice a T.len cap] 29)).heap.size = W.heap.size + 2 := by simp
  have hFw := hF.fr (Fr.of hbB []) (by simp)
  gi_wp2
  (try rw [show (W.alloc (.cells #[.int .i64 0] 3)).heap.size = W.heap.size + 1 by simp])
  generalize (W.alloc (.cells #[.int .i64 0] 3)).alloc (.cells #[.slice a T.len cap] 29) = w2 at *
  refine wpIn_rangeFunc_ownH rfl (by omega) (gf := 40) (lb := #[.pointer (some ⟨W.heap.size + 1, 0, none⟩)]) rfl trivial (enters_of Tryd.func40 (by kernel_rfl) rfl)
    (all_stops (L := [W.heap.size]) (by simp) (by simp; omega) 4 (W.heap.size + 1) T _ hw hFw (by omega) w2 (Kc.refl _ _) c1) (fun h k => h.trans k) (fun V l o o' _ h hc _ => kc_b _ V l o o' h hc) (Below.refl _ _) (fun _ => rfl)
    (fun pre V => (V.cell? ⟨W.heap.size, 0, none⟩ = some (.int .i64 (dM (pre.map bop) : Int)) ∧ V.frozen? ⟨W.heap.size, 0, none⟩ = false) ∧ Below W.heap.size W V)
    (fun _ _ V => False ∧ Below W.heap.size W V)
    (OwnFrom.and (Own.from (fun s A B row hs hg hr => ⟨cell_kept hs.1 hg hr, (frozen_kept hs.1 hg hr).trans hs.2⟩) _) (ownFrom_below (Nat.le_refl _) (by omega)))
    (fun c => OwnFrom.and (Own.from (fun s A B row hs hg hr => hs) _) (ownFrom_below (Nat.le_refl _) (by omega)))
    ⟨⟨c0, f0⟩, hbB⟩
    (fun x a' V => ∃ Bx, W.heap.size < Bx ∧ V.cell? ⟨Bx, 0, none⟩ = some (.int .i64 x.1.op) ∧ a' = { tmps := #[.slice a T.len cap, undef, .int .i64 0, .pointer (some ⟨W.heap.size, 0, none⟩), .int .i64 (x.1.b : Int), .pointer (some ⟨Bx, 0, none⟩), undef, undef, .slice a T.len cap, .func (.func 40) #[] #[.pointer (some ⟨W.heap.size + 1, 0, none⟩)], .int .i64 (x.1.b : Int), x.1.agg, undef, undef, undef, undef, undef, undef, undef, undef, undef, undef, undef, undef, undef, undef], defers := [] })
    (fun x a' _ X Y row hs hg hr => by obtain ⟨Bx, h1, h2, h3⟩ := hs; exact ⟨Bx, h1, cell_kept h2 hg (fun r e => (hr r e).2), h3⟩)
    ?assign ?body ?done ?stop
  case assign =>
    rintro l pre ⟨⟨b, op, ty, aa, bb, bits, li, has, t, e, l1, l3, t1, t3, e1, e3⟩, hg⟩ V K ⟨⟨hc, hf⟩, hB⟩ hK
    have hlt := lt_of_cell hc
    dsimp only [en, It.agg] at hK ⊢
    gi_wp2
    refine hK _ _ ((KeepsOthers.alloc _ _).from _) (Kc.alloc _ _ _) ⟨⟨cell_kept hc (World.grownBy_alloc V _ none) (fun r e => by cases e), (frozen_kept hc (World.grownBy_alloc V _ none) (fun r e => by cases e)).trans hf⟩, hB.alloc (by omega) _⟩ ⟨V.heap.size, hlt, ?_, rfl⟩
    simp [go_sem]
  case body =>
    rintro l pre x a' V hl ⟨r, hr⟩ ⟨⟨hc, hf⟩, hB⟩ ⟨Bx, hBx, hX, rfl⟩ hlen
    have hMV := hM.below hB
    have hxb := x.2.1.1
    have hC := unhide (imm_any x.1.op x.2.1.2) V hMV
    have iw : IntKind.i64.wrap ((x.1.b : Int) + 1) = (x.1.b : Int) + 1 := i64_id (by omega) (by omega)
    gi_wp2
    refine ⟨trivial, CallsIn.inRound l (callsIn_wide.2 (hC.mono ?_))⟩
    rintro e V2 ⟨rfl, hb2⟩
    have hlt := lt_of_cell hc
    have hBV := hB.trans (hb2.mono hB.size)
    have hlX := lt_of_cell hX
    have hc2 := keep1 hb2 hlt hc
    have hf2 : V2.frozen? ⟨W.heap.size, 0, none⟩ = false := (hb2.frozen hlt).trans hf
    have hX2 := keep1 hb2 hlX hX
    have hsz := hb2.size
    have HL : Hid (∀ m : Int, m = (dM ((pre ++ [x]).map bop) : Int) → KeepsFrom (W.heap.size + 2) V (V2.setCell ⟨W.heap.size, 0, none⟩ (.int .i64 m)) ∧ Kc [W.heap.size] V (V2.setCell ⟨W.heap.size, 0, none⟩ (.int .i64 m)) ∧ (((V2.setCell ⟨W.heap.size, 0, none⟩ (.int .i64 m)).cell? ⟨W.heap.size, 0, none⟩ = some (.int .i64 (dM ((pre ++ [x]).map bop) : Int)) ∧ (V2.setCell ⟨W.heap.size, 0, none⟩ (.int .i64 m)).frozen? ⟨W.heap.size, 0, none⟩ = false) ∧ Below W.heap.size W (V2.setCell ⟨W.heap.size, 0, none⟩ (.int .i64 m)))) := hide fun m hm => by
      subst hm
      exact ⟨(⟨hsz, fun k o _ hk _ => (hb2.block k (Array.getElem?_eq_some_iff.1 hk).1).trans hk⟩ : KeepsFrom _ V V2).trans ((KeepsOthers.setCell _ _ _).from _), Kc.of ((Fr.of hb2 [W.heap.size]).place _ _), ⟨World.cell?_setCell_same _ _ _ hc2, by rw [frozen_set]; exact hf2⟩, hBV.setCell (p := ⟨W.heap.size, 0, none⟩) (Nat.le_refl _) _⟩
    have HD : Hid (dM ((pre ++ [x]).map bop) = max (dM (pre.map bop)) (dm (x.1.b, x.1.op))) := hide (by rw [List.map_append, List.map_cons, List.map_nil, dM_snoc]; rfl)
    clear hr hBV hsz hB hl
    by_cases hq : 2 ≤ x.1.op ∧ x.1.op ≤ 4
    · have HQ : Hid (dm (x.1.b, x.1.op) = x.1.b + 1) := hide (by unfold dm; rw [if_pos hq])
      rw [low_block hq]
      gi_wp2
      all_goals
        have h1 := unhide HD
        have h2 := unhide HQ
        exact unhide HL _ (by omega)
    · have HQ : Hid (dm (x.1.b, x.1.op) = x.1.b) := hide (by unfold dm; rw [if_neg hq]; rfl)
      have hn : ¬ imI x.1.op = 1 := fun k => hq (imI_1 k)
      gi_wp2
      all_goals
        have h1 := unhide HD
        have h2 := unhide HQ
        exact unhide HL _ (by omega)
  case done =>
    rintro D ys V hD hys ⟨⟨hc, hf⟩, hB⟩ hK
    have hl : dM (ys.map bop) = T.dep := by
      rw [hys, dM_dep]
      by_cases q : T.len = 0
      · rw [if_pos q, Fo.dep_nil q]
      · rw [if_neg q]; rfl
    gi_wp2
    refine ⟨by simp, .inl ⟨_, _, rfl, run_takeDeferred hK, ?_⟩⟩
    exact ⟨_, results_tmp rfl _ _ _, by show Ending.returned (Value.int .i64 (dM (tellP 0 T) : Int)) = _; rw [← hys, hl], hB.trans (belowK_b (w := W) (Nat.le_refl _) V D _ _ (by omega) hK rfl rfl)⟩
  case stop =>
    rintro D c pre V hD _ h _
    exact h.1.elim
end Go.Proofs.YtalahdkgigcpfaaDoor
namespace Go.Proofs.YtalahdkgigcpfaaDoor
open Go.RowKit

set_option maxHeartbeats 4000000 in
set_option maxRecDepth 100000 in
theorem rins_f1 {may : Bool} {b y e1 : Int} {k1 : Nat} {c rb : Nat} {a : Option Addr} {len cap : Nat} {xs : List Int} {sat : Bool} {deep k : Nat} {e : Int} {W : World} (h : Rq c rb a len cap xs sat k e W) (hv : nxV xs k e = b) (hd : Rd (rOpN sat) xs k (nxE xs k e) y k1 e1) (hz : e1 ≠ 0) (ho : Rd (rOp sat may deep) xs k e y k1 e1) (h2 : decide (2 ≤ b) = false) : RInstrP c rb a len cap xs sat may deep k e W := by
  have HR := hide h
  have HO : Hid (Old W.heap.size c rb a len) := hide (h.old (Nat.le_refl W.heap.size))
  have HVl := hide hv
  have HNe : Hid (nxE xs k e = nxE xs k e) := hide rfl
  have HD := hide hd
  have HZ := hide hz
  have HOp := hide ho
  clear h hv hd hz ho
  unfold RInstrP
  go_enter Tryd.func39, Tryd.ntmps39
  go_wp2_with fail
  have hb := below1 W (.cells #[.int .i64 0, .int .u8 0, .int .u32 0, .int .u32 0, .int .u64 0, .slice none 0 0, .slice none 0 0, .slice none 0 0, .bool false] 73)
  have HR := hide ((unhide HR).bel hb)
  have HF := hide (Fr.of hb [c])
  have HV := hide (nr_0 W)
  generalize W.alloc (.cells #[.int .i64 0, .int .u8 0, .int .u32 0, .int .u32 0, .int .u64 0, .slice none 0 0, .slice none 0 0, .slice none 0 0, .bool false] 73) = wr at *
  refine (rnext_any (unhide HR)).mono ?_
  rintro _ w0 ⟨rfl, hR, hF⟩
  rw [unhide HVl]
  have HR := hide hR
  have HV := hide ((unhide HV).fr hF (by have := (unhide HO).c; simp; omega))
  have HF := hide ((unhide HF).trans hF)
  clear hR hF hb
  clear HNe
  go_wp2_with fail
  have hop := rop_any (unhide HR)
  unfold OpP at hop
  refine hop.mono ?_
  clear hop
  rintro _ w1 ⟨y', k1', e1', rfl, hd', hR, hF⟩
  obtain ⟨rfl, rfl, hyy⟩ := Rd.det (unhide HD) hd'
  have HR := hide hR
  have HV := hide ((unhide HV).fr hF (by have := (unhide HO).c; simp; omega))
  have HF := hide ((unhide HF).trans hF)
  have HF0 := hide hF.size
  clear hR hF hd'
  rw [if_neg (unhide HZ)]
  have z0 := (unhide HV).tab 0 _ rfl
  have fz0 := ((unhide HV).room 0 (by decide)).2
  have z1 := (unhide HV).tab 1 _ rfl
  have fz1 := ((unhide HV).room 1 (by decide)).2
  have z2 := (unhide HV).tab 2 _ rfl
  have fz2 := ((unhide HV).room 2 (by decide)).2
  have z3 := (unhide HV).tab 3 _ rfl
  have fz3 := ((unhide HV).room 3 (by decide)).2
  have z4 := (unhide HV).tab 4 _ rfl
  have fz4 := ((unhide HV).room 4 (by decide)).2
  have z5 := (unhide HV).tab 5 _ rfl
  have fz5 := ((unhide HV).room 5 (by decide)).2
  have z6 := (unhide HV).tab 6 _ rfl
  have fz6 := ((unhide HV).room 6 (by decide)).2
  have z7 := (unhide HV).tab 7 _ rfl
  have fz7 := ((unhide HV).room 7 (by decide)).2
  have z8 := (unhide HV).tab 8 _ rfl
  have fz8 := ((unhide HV).room 8 (by decide)).2
  dsimp only [hd0] at z0 z1 z2 z3 z4 z8
  go_wp2_with fail
  refine bodyPost_ret (v := .agg #[.int .i64 0, .int .u8 0, .int .u32 0, .int .u32 0, .int .u64 0, .slice none 0 0, .slice none 0 0, .slice none 0 0, .bool false]) (by simp [results, Tryd.results39, go_sem, z0, z1, z2, z3, z4, z5, z6, z7, z8]) rfl ?_
  have fZ := fun w => fr_set9 w W.heap.size (.int .i64 0) (.int .u8 0) (.int .u32 0) (.int .u32 0) (.int .u64 0) (.slice none 0 0) (.slice none 0 0) (.slice none 0 0) (.bool false)
  exact ⟨hd0 0, none, 0, 0, none, 0, 0, none, 0, 0, y, _, _, inz, _, _, rfl, unhide HOp, fun q => absurd q (unhide HZ), Rd.err _ (unhide HZ), fun q => absurd q (unhide HZ), (unhide HR).fr (fZ _) (unhide HO) (by simp), (unhide HF).thenL (fZ _) (by simp)⟩
set_option maxHeartbeats 4000000 in
set_option maxRecDepth 100000 in
theorem rins_f2 {may : Bool} {b y e1 : Int} {k1 : Nat} {c rb : Nat} {a : Option Addr} {len cap : Nat} {xs : List Int} {sat : Bool} {deep k : Nat} {e : Int} {W : World} (h : Rq c rb a len cap xs sat k e W) (hv : nxV xs k e = b) (hd : Rd (rOpN sat) xs k (nxE xs k e) y k1 e1) (hz : e1 ≠ 0) (ho : Rd (rOp sat may deep) xs k e y k1 e1) (h2 : decide (2 ≤ b) = true) (h4 : decide (b ≤ 4) = false) : RInstrP c rb a len cap xs sat may deep k e W := by
  have HR := hide h
  have HO : Hid (Old W.heap.size c rb a len) := hide (h.old (Nat.le_refl W.heap.size))
  have HVl := hide hv
  have HNe : Hid (nxE xs k e = nxE xs k e) := hide rfl
  have HD := hide hd
  have HZ := hide hz
  have HOp := hide ho
  clear h hv hd hz ho
  unfold RInstrP
  go_enter Tryd.func39, Tryd.ntmps39
  go_wp2_with fail
  have hb := below1 W (.cells #[.int .i64 0, .int .u8 0, .int .u32 0, .int .u32 0, .int .u64 0, .slice none 0 0, .slice none 0 0, .slice none 0 0, .bool false] 73)
  have HR := hide ((unhide HR).bel hb)
  have HF := hide (Fr.of hb [c])
  have HV := hide (nr_0 W)
  generalize W.alloc (.cells #[.int .i64 0, .int .u8 0, .int .u32 0, .int .u32 0, .int .u64 0, .slice none 0 0, .slice none 0 0, .slice none 0 0, .bool false] 73) = wr at *
  refine (rnext_any (unhide HR)).mono ?_
  rintro _ w0 ⟨rfl, hR, hF⟩
  rw [unhide HVl]
  have HR := hide hR
  have HV := hide ((unhide HV).fr hF (by have := (unhide HO).c; simp; omega))
  have HF := hide ((unhide HF).trans hF)
  clear hR hF hb
  clear HNe
  go_wp2_with fail
  have hop := rop_any (unhide HR)
  unfold OpP at hop
  refine hop.mono ?_
  clear hop
  rintro _ w1 ⟨y', k1', e1', rfl, hd', hR, hF⟩
  obtain ⟨rfl, rfl, hyy⟩ := Rd.det (unhide HD) hd'
  have HR := hide hR
  have HV := hide ((unhide HV).fr hF (by have := (unhide HO).c; simp; omega))
  have HF := hide ((unhide HF).trans hF)
  have HF0 := hide hF.size
  clear hR hF hd'
  rw [if_neg (unhide HZ)]
  have z0 := (unhide HV).tab 0 _ rfl
  have fz0 := ((unhide HV).room 0 (by decide)).2
  have z1 := (unhide HV).tab 1 _ rfl
  have fz1 := ((unhide HV).room 1 (by decide)).2
  have z2 := (unhide HV).tab 2 _ rfl
  have fz2 := ((unhide HV).room 2 (by decide)).2
  have z3 := (unhide HV).tab 3 _ rfl
  have fz3 := ((unhide HV).room 3 (by decide)).2
  have z4 := (unhide HV).tab 4 _ rfl
  have fz4 := ((unhide HV).room 4 (by decide)).2
  have z5 := (unhide HV).tab 5 _ rfl
  have fz5 := ((unhide HV).room 5 (by decide)).2
  have z6 := (unhide HV).tab 6 _ rfl
  have fz6 := ((unhide HV).room 6 (by decide)).2
  have z7 := (unhide HV).tab 7 _ rfl
  have fz7 := ((unhide HV).room 7 (by decide)).2
  have z8 := (unhide HV).tab 8 _ rfl
  have fz8 := ((unhide HV).room 8 (by decide)).2
  dsimp only [hd0] at z0 z1 z2 z3 z4 z8
  go_wp2_with fail
  refine bodyPost_ret (v := .agg #[.int .i64 0, .int .u8 0, .int .u32 0, .int .u32 0, .int .u64 0, .slice none 0 0, .slice none 0 0, .slice none 0 0, .bool false]) (by simp [results, Tryd.results39, go_sem, z0, z1, z2, z3, z4, z5, z6, z7, z8]) rfl ?_
  have fZ := fun w => fr_set9 w W.heap.size (.int .i64 0) (.int .u8 0) (.int .u32 0) (.int .u32 0) (.int .u64 0) (.slice none 0 0) (.slice none 0 0) (.slice none 0 0) (.bool false)
  exact ⟨hd0 0, none, 0, 0, none, 0, 0, none, 0, 0, y, _, _, inz, _, _, rfl, unhide HOp, fun q => absurd q (unhide HZ), Rd.err _ (unhide HZ), fun q => absurd q (unhide HZ), (unhide HR).fr (fZ _) (unhide HO) (by simp), (unhide HF).thenL (fZ _) (by simp)⟩
set_option maxHeartbeats 4000000 in
set_option maxRecDepth 100000 in
theorem rins_f3 {may : Bool} {b y e1 : Int} {k1 : Nat} {c rb : Nat} {a : Option Addr} {len cap : Nat} {xs : List Int} {sat : Bool} {deep k : Nat} {e : Int} {W : World} (h : Rq c rb a len cap xs sat k e W) (hv : nxV xs k e = b) (hd : Rd (rOpN sat) xs k (nxE xs k e) y k1 e1) (hz : e1 ≠ 0) (ho : Rd (rOp sat may deep) xs k e y k1 e1) (h2 : decide (2 ≤ b) = true) (h4 : decide (b ≤ 4) = true) (h64 : decide (64 ≤ (deep : Int)) = false) : RInstrP c rb a len cap xs sat may deep k e W := by
  have HR := hide h
  have HO : Hid (Old W.heap.size c rb a len) := hide (h.old (Nat.le_refl W.heap.size))
  have HVl := hide hv
  have HNe : Hid (nxE xs k e = nxE xs k e) := hide rfl
  have HD := hide hd
  have HZ := hide hz
  have HOp := hide ho
  clear h hv hd hz ho
  unfold RInstrP
  go_enter Tryd.func39, Tryd.ntmps39
  go_wp2_with fail
  have hb := below1 W (.cells #[.int .i64 0, .int .u8 0, .int .u32 0, .int .u32 0, .int .u64 0, .slice none 0 0, .slice none 0 0, .slice none 0 0, .bool false] 73)
  have HR := hide ((unhide HR).bel hb)
  have HF := hide (Fr.of hb [c])
  have HV := hide (nr_0 W)
  generalize W.alloc (.cells #[.int .i64 0, .int .u8 0, .int .u32 0, .int .u32 0, .int .u64 0, .slice none 0 0, .slice none 0 0, .slice none 0 0, .bool false] 73) = wr at *
  refine (rnext_any (unhide HR)).mono ?_
  rintro _ w0 ⟨rfl, hR, hF⟩
  rw [unhide HVl]
  have HR := hide hR
  have HV := hide ((unhide HV).fr hF (by have := (unhide HO).c; simp; omega))
  have HF := hide ((unhide HF).trans hF)
  clear hR hF hb
  clear HNe
  go_wp2_with fail
  have hop := rop_any (unhide HR)
  unfold OpP at hop
  refine hop.mono ?_
  clear hop
  rintro _ w1 ⟨y', k1', e1', rfl, hd', hR, hF⟩
  obtain ⟨rfl, rfl, hyy⟩ := Rd.det (unhide HD) hd'
  have HR := hide hR
  have HV := hide ((unhide HV).fr hF (by have := (unhide HO).c; simp; omega))
  have HF := hide ((unhide HF).trans hF)
  have HF0 := hide hF.size
  clear hR hF hd'
  rw [if_neg (unhide HZ)]
  have z0 := (unhide HV).tab 0 _ rfl
  have fz0 := ((unhide HV).room 0 (by decide)).2
  have z1 := (unhide HV).tab 1 _ rfl
  have fz1 := ((unhide HV).room 1 (by decide)).2
  have z2 := (unhide HV).tab 2 _ rfl
  have fz2 := ((unhide HV).room 2 (by decide)).2
  have z3 := (unhide HV).tab 3 _ rfl
  have fz3 := ((unhide HV).room 3 (by decide)).2
  have z4 := (unhide HV).tab 4 _ rfl
  have fz4 := ((unhide HV).room 4 (by decide)).2
  have z5 := (unhide HV).tab 5 _ rfl
  have fz5 := ((unhide HV).room 5 (by decide)).2
  have z6 := (unhide HV).tab 6 _ rfl
  have fz6 := ((unhide HV).room 6 (by decide)).2
  have z7 := (unhide HV).tab 7 _ rfl
  have fz7 := ((unhide HV).room 7 (by decide)).2
  have z8 := (unhide HV).tab 8 _ rfl
  have fz8 := ((unhide HV).room 8 (by decide)).2
  dsimp only [hd0] at z0 z1 z2 z3 z4 z8
  go_wp2_with fail
  refine bodyPost_ret (v := .agg #[.int .i64 0, .int .u8 0, .int .u32 0, .int .u32 0, .int .u64 0, .slice none 0 0, .slice none 0 0, .slice none 0 0, .bool false]) (by simp [results, Tryd.results39, go_sem, z0, z1, z2, z3, z4, z5, z6, z7, z8]) rfl ?_
  have fZ := fun w => fr_set9 w W.heap.size (.int .i64 0) (.int .u8 0) (.int .u32 0) (.int .u32 0) (.int .u64 0) (.slice none 0 0) (.slice none 0 0) (.slice none 0 0) (.bool false)
  exact ⟨hd0 0, none, 0, 0, none, 0, 0, none, 0, 0, y, _, _, inz, _, _, rfl, unhide HOp, fun q => absurd q (unhide HZ), Rd.err _ (unhide HZ), fun q => absurd q (unhide HZ), (unhide HR).fr (fZ _) (unhide HO) (by simp), (unhide HF).thenL (fZ _) (by simp)⟩
set_option maxHeartbeats 4000000 in
set_option maxRecDepth 100000 in
theorem rins_lim {may : Bool} {b : Int} {c rb : Nat} {a : Option Addr} {len cap : Nat} {xs : List Int} {sat : Bool} {deep k : Nat} {W : World} (h : Rq c rb a len cap xs sat k 0 W) (hv : nxV xs k 0 = b) (hk : k < xs.length) (h2' : 2 ≤ xs.getD k 0 ∧ xs.getD k 0 ≤ 4) (hdp : deep = 64) (h2 : decide (2 ≤ b) = true) (h4 : decide (b ≤ 4) = true) (h64 : decide (64 ≤ (deep : Int)) = true) : RInstrP c rb a len cap xs sat may deep k 0 W := by
  have HR := hide h
  have HO : Hid (Old W.heap.size c rb a len) := hide (h.old (Nat.le_refl W.heap.size))
  have HVl := hide hv
  have HNe : Hid (nxE xs k 0 = 0) := hide (by unfold nxE; rw [if_neg (by omega)])
  have HOp : Hid (∀ y, Rd (rOp sat may deep) xs k 0 y k 3) := hide (fun y => by rw [hdp]; exact rOp_limit hk h2' y)
  clear h hv hk h2' hdp
  unfold RInstrP
  go_enter Tryd.func39, Tryd.ntmps39
  go_wp2_with fail
  have hb := below1 W (.cells #[.int .i64 0, .int .u8 0, .int .u32 0, .int .u32 0, .int .u64 0, .slice none 0 0, .slice none 0 0, .slice none 0 0, .bool false] 73)
  have HR := hide ((unhide HR).bel hb)
  have HF := hide (Fr.of hb [c])
  have HV := hide (nr_0 W)
  generalize W.alloc (.cells #[.int .i64 0, .int .u8 0, .int .u32 0, .int .u32 0, .int .u64 0, .slice none 0 0, .slice none 0 0, .slice none 0 0, .bool false] 73) = wr at *
  refine (rnext_any (unhide HR)).mono ?_
  rintro _ w0 ⟨rfl, hR, hF⟩
  rw [unhide HVl]
  rw [unhide HNe] at hR
  have HR := hide hR
  have HV := hide ((unhide HV).fr hF (by have := (unhide HO).c; simp; omega))
  have HF := hide ((unhide HF).trans hF)
  clear hR hF hb
  have h0 := (unhide HR).rdr.1
  go_wp2_with fail
  refine (rFail_any (unhide HR).cur).mono ?_
  rintro _ w2 ⟨rfl, hC, hF⟩
  rw [if_pos rfl] at hC
  have HR := hide ((unhide HR).step hF hC)
  have HV := hide ((unhide HV).fr hF (by have := (unhide HO).c; simp; omega))
  have HF := hide ((unhide HF).trans hF)
  clear hC hF h0
  go_wp2_with fail
  have HD : Hid (Rd (rOpN sat) xs k 3 0 k 3) := hide (Rd.err _ (by decide))
  have hop := rop_any (unhide HR)
  unfold OpP at hop
  refine hop.mono ?_
  clear hop
  rintro _ w1 ⟨y', k1', e1', rfl, hd', hR, hF⟩
  obtain ⟨q1, q2, -⟩ := Rd.det (unhide HD) hd'
  subst q1
  subst q2
  have HR := hide hR
  have HV := hide ((unhide HV).fr hF (by have := (unhide HO).c; simp; omega))
  have HF := hide ((unhide HF).trans hF)
  have HF0 := hide hF.size
  clear hR hF hd'
  rw [if_neg (by decide)]
  have z0 := (unhide HV).tab 0 _ rfl
  have fz0 := ((unhide HV).room 0 (by decide)).2
  have z1 := (unhide HV).tab 1 _ rfl
  have fz1 := ((unhide HV).room 1 (by decide)).2
  have z2 := (unhide HV).tab 2 _ rfl
  have fz2 := ((unhide HV).room 2 (by decide)).2
  have z3 := (unhide HV).tab 3 _ rfl
  have fz3 := ((unhide HV).room 3 (by decide)).2
  have z4 := (unhide HV).tab 4 _ rfl
  have fz4 := ((unhide HV).room 4 (by decide)).2
  have z5 := (unhide HV).tab 5 _ rfl
  have fz5 := ((unhide HV).room 5 (by decide)).2
  have z6 := (unhide HV).tab 6 _ rfl
  have fz6 := ((unhide HV).room 6 (by decide)).2
  have z7 := (unhide HV).tab 7 _ rfl
  have fz7 := ((unhide HV).room 7 (by decide)).2
  have z8 := (unhide HV).tab 8 _ rfl
  have fz8 := ((unhide HV).room 8 (by decide)).2
  dsimp only [hd0] at z0 z1 z2 z3 z4 z8
  go_wp2_with fail
  refine bodyPost_ret (v := .agg #[.int .i64 0, .int .u8 0, .int .u32 0, .int .u32 0, .int .u64 0, .slice none 0 0, .slice none 0 0, .slice none 0 0, .bool false]) (by simp [results, Tryd.results39, go_sem, z0, z1, z2, z3, z4, z5, z6, z7, z8]) rfl ?_
  have fZ := fun w => fr_set9 w W.heap.size (.int .i64 0) (.int .u8 0) (.int .u32 0) (.int .u32 0) (.int .u64 0) (.slice none 0 0) (.slice none 0 0) (.slice none 0 0) (.bool false)
  exact ⟨hd0 0, none, 0, 0, none, 0, 0, none, 0, 0, 0, _, _, inz, _, _, rfl, unhide HOp 0, fun q => absurd q (by decide), Rd.err _ (by decide), fun q => absurd q (by decide), (unhide HR).fr (fZ _) (unhide HO) (by simp), (unhide HF).thenL (fZ _) (by simp)⟩
end Go.Proofs.YtalahdkgigcpfaaDoor
namespace Go.Proofs.YtalahdkgigcpfaaDoor
open Go.RowKit

theorem rs32b {c : Nat} {a : Option Addr} {len cap k : Nat} {xs : List Int} {e : Int} {W : World} (h : Cs c a len cap xs k e W) : ∃ y k1 e1, Rd rS32 xs k e y k1 e1 ∧
    Calls Tryd.prog 63 #[.pointer (some ⟨c, 0, none⟩), .int .i64 32] W fun r W' => r = .returned (.int .u64 y) ∧ Cs c a len cap xs k1 e1 W' ∧ Fr [c] W W' := ⟨_, _, _, rd_bnd (gd_S 32) Rd.lift, rSint32_any h⟩
set_option maxHeartbeats 8000000 in
set_option maxRecDepth 100000 in
theorem rins_0 {n : Nat} {may : Bool} {b y v : Int} {k1 : Nat} {c rb : Nat} {a : Option Addr} {len cap : Nat} {xs : List Int} {sat : Bool} {deep k : Nat} {W : World} (HI : Hid (QSeq c rb a len cap xs sat n)) (h : Rq c rb a len cap xs sat k 0 W) (hv : nxV xs k 0 = b) (hk : k < xs.length) (hd : Rd (rOpN sat) xs k 0 y k1 0) (ho : Rd (rOp sat may deep) xs k 0 y k1 0) (hy : 0 ≤ y) (hy5 : ¬ (y = 5 ∨ y = 11)) (him : Ct 58 #[.int .i64 y] (.int .i64 v)) (hi : ∀ j : Int, 1 ≤ j → j ≤ 11 → imI y ≠ j) (hvv : ∀ j : Int, 1 ≤ j → j ≤ 11 → v ≠ j) (hq : decide (2 ≤ b) = false ∨ decide (2 ≤ b) = true ∧ decide (b ≤ 4) = false)  : RInstrP c rb a len cap xs sat may deep k 0 W := by
  have HR := hide h
  have HO : Hid (Old W.heap.size c rb a len) := hide (h.old (Nat.le_refl W.heap.size))
  have HVl := hide hv
  have HNe : Hid (nxE xs k 0 = 0) := hide (by unfold nxE; rw [if_neg (by omega)])
  have HD := hide hd
  have HOp := hide ho
  have HY5 := hide hy5
  have HIm := hide him
  have hneg : ¬ y < 0 := by omega
  have nv1 : (v == 1) = false := by have := hvv 1 (by decide) (by decide); simp [this]
  have nv2 : (v == 2) = false := by have := hvv 2 (by decide) (by decide); simp [this]
  have nv3 : (v == 3) = false := by have := hvv 3 (by decide) (by decide); simp [this]
  have nv4 : (v == 4) = false := by have := hvv 4 (by decide) (by decide); simp [this]
  have nv5 : (v == 5) = false := by have := hvv 5 (by decide) (by decide); simp [this]
  have nv6 : (v == 6) = false := by have := hvv 6 (by decide) (by decide); simp [this]
  have nv7 : (v == 7) = false := by have := hvv 7 (by decide) (by decide); simp [this]
  have nv8 : (v == 8) = false := by have := hvv 8 (by decide) (by decide); simp [this]
  have nv9 : (v == 9) = false := by have := hvv 9 (by decide) (by decide); simp [this]
  have nv10 : (v == 10) = false := by have := hvv 10 (by decide) (by decide); simp [this]
  have nv11 : (v == 11) = false := by have := hvv 11 (by decide) (by decide); simp [this]
  have HV0 := hide hi
  have HQ := hide hq
  have _ := HI
  clear hi hq
  clear h hv hk hd ho hy hy5 him
  unfold RInstrP
  go_enter Tryd.func39, Tryd.ntmps39
  go_wp2_with fail
  have hb := below1 W (.cells #[.int .i64 0, .int .u8 0, .int .u32 0, .int .u32 0, .int .u64 0, .slice none 0 0, .slice none 0 0, .slice none 0 0, .bool false] 73)
  have HR := hide ((unhide HR).bel hb)
  have HF := hide (Fr.of hb [c])
  have HV := hide (nr_0 W)
  generalize W.alloc (.cells #[.int .i64 0, .int .u8 0, .int .u32 0, .int .u32 0, .int .u64 0, .slice none 0 0, .slice none 0 0, .slice none 0 0, .bool false] 73) = wr at *
  refine (rnext_any (unhide HR)).mono ?_
  rintro _ w0 ⟨rfl, hR, hF⟩
  rw [unhide HVl]
  rw [unhide HNe] at hR
  have HR := hide hR
  have HV := hide ((unhide HV).fr hF (by have := (unhide HO).c; simp; omega))
  have HF := hide ((unhide HF).trans hF)
  clear hR hF hb
  rcases unhide HQ with h2 | ⟨h2, h4⟩
  · clear HNe
    go_wp2_with fail
    have hop := rop_any (unhide HR)
    unfold OpP at hop
    refine hop.mono ?_
    clear hop
    rintro _ w1 ⟨y', k1', e1', rfl, hd', hR, hF⟩
    obtain ⟨q1, q2, q3⟩ := Rd.det (unhide HD) hd'
    subst q1
    subst q2
    obtain rfl := q3 rfl
    have HR := hide hR
    have HV := hide ((unhide HV).fr hF (by have := (unhide HO).c; simp; omega))
    have HF := hide ((unhide HF).trans hF)
    have HV1 := HV
    clear hR hF hd'
    rw [if_pos rfl]
    go_wp2_with fail
    have hb := below1 w1 (.cells #[.int .i64 y, .int .u8 0, .int .u32 0, .int .u32 0, .int .u64 0, .slice none 0 0, .slice none 0 0, .slice none 0 0, .bool false] 73)
    have hs := (unhide HF).size
    have HR := hide ((unhide HR).bel hb)
    have HF := hide ((unhide HF).bel hb)
    have HV := hide ((unhide HV).fr (Fr.of hb []) (by simp))
    have HN := hide (nr_1 w1 hs y)
    have HNi := hide (show W.heap.size < w1.heap.size from by have := (unhide HV1).lt; omega)
    generalize w1.alloc (.cells #[.int .i64 y, .int .u8 0, .int .u32 0, .int .u32 0, .int .u64 0, .slice none 0 0, .slice none 0 0, .slice none 0 0, .bool false] 73) = w2 at *
    generalize w1.heap.size = ib at *
    clear hb hs
    refine ((unhide (unhide HIm)) _).mono ?_
    rintro _ w3 ⟨rfl, hb⟩
    have HR := hide ((unhide HR).bel hb)
    have HF := hide ((unhide HF).bel hb)
    have HV := hide ((unhide HV).fr (Fr.of hb []) (by simp))
    have HN := hide ((unhide HN).fr (Fr.of hb []) (by simp))
    clear hb HIm
    have t0 := (unhide HN).tab 0 _ rfl
    have z0 := (unhide HV).tab 0 _ rfl
    have fz0 := ((unhide HV).room 0 (by decide)).2
    have t1 := (unhide HN).tab 1 _ rfl
    have z1 := (unhide HV).tab 1 _ rfl
    have fz1 := ((unhide HV).room 1 (by decide)).2
    have t2 := (unhide HN).tab 2 _ rfl
    have z2 := (unhide HV).tab 2 _ rfl
    have fz2 := ((unhide HV).room 2 (by decide)).2
    have t3 := (unhide HN).tab 3 _ rfl
    have z3 := (unhide HV).tab 3 _ rfl
    have fz3 := ((unhide HV).room 3 (by decide)).2
    have t4 := (unhide HN).tab 4 _ rfl
    have z4 := (unhide HV).tab 4 _ rfl
    have fz4 := ((unhide HV).room 4 (by decide)).2
    have t5 := (unhide HN).tab 5 _ rfl
    have z5 := (unhide HV).tab 5 _ rfl
    have fz5 := ((unhide HV).room 5 (by decide)).2
    have t6 := (unhide HN).tab 6 _ rfl
    have z6 := (unhide HV).tab 6 _ rfl
    have fz6 := ((unhide HV).room 6 (by decide)).2
    have t7 := (unhide HN).tab 7 _ rfl
    have z7 := (unhide HV).tab 7 _ rfl
    have fz7 := ((unhide HV).room 7 (by decide)).2
    have t8 := (unhide HN).tab 8 _ rfl
    have z8 := (unhide HV).tab 8 _ rfl
    have fz8 := ((unhide HV).room 8 (by decide)).2
    have ne1 : ¬ ib = W.heap.size := by have := unhide HNi; omega
    have ne2 : ¬ W.heap.size = ib := by have := unhide HNi; omega
    (try dsimp only [hd0] at t0 t1 t2 t3 t4 t8)
    (try dsimp only [hd0] at z0 z1 z2 z3 z4 z8)
    go_wp2_with fail
    refine bodyPost_ret (v := .agg #[.int .i64 y, .int .u8 0, .int .u32 0, .int .u32 0, .int .u64 0, .slice none 0 0, .slice none 0 0, .slice none 0 0, .bool false]) (by simp [results, Tryd.results39, go_sem, z0, z1, z2, z3, z4, z5, z6, z7, z8]) rfl ?_
    have fZ := fun w => fr_set9 w W.heap.size (.int .i64 y) (.int .u8 0) (.int .u32 0) (.int .u32 0) (.int .u64 0) (.slice none 0 0) (.slice none 0 0) (.slice none 0 0) (.bool false)
    refine ⟨⟨y, 0, 0, 0, 0, [], false⟩, none, 0, 0, none, 0, 0, none, 0, 0, y, k1, 0, (⟨y, 0, 0, 0, 0, [], false⟩, .nil, .nil), _, _, rfl, unhide HOp, fun _ => unhide HY5, ?_, fun _ => ⟨rfl, slc_nil _ _, fov_nil _ _, fov_nil _ _⟩, (unhide HR).fr (fZ _) (unhide HO) (by simp), (unhide HF).thenL (fZ _) (by simp)⟩
    rw [show rRest (sq sat) deep y = giv (hd0 y, .nil, .nil) by unfold rRest rPlain; have := unhide HV0; rw [if_neg (this 1 (by decide) (by decide)), if_neg (fun q => q.elim (this 2 (by decide) (by decide)) (this 4 (by decide) (by decide))), if_neg (this 3 (by decide) (by decide)), if_neg (this 5 (by decide) (by decide)), if_neg (this 6 (by decide) (by decide)), if_neg (this 7 (by decide) (by decide)), if_neg (this 8 (by decide) (by decide)), if_neg (this 9 (by decide) (by decide)), if_neg (this 10 (by decide) (by decide)), if_neg (this 11 (by decide) (by decide))]]
    exact Rd.giv _ _ _ _
  · clear HNe
    go_wp2_with fail
    have hop := rop_any (unhide HR)
    unfold OpP at hop
    refine hop.mono ?_
    clear hop
    rintro _ w1 ⟨y', k1', e1', rfl, hd', hR, hF⟩
    obtain ⟨q1, q2, q3⟩ := Rd.det (unhide HD) hd'
    subst q1
    subst q2
    obtain rfl := q3 rfl
    have HR := hide hR
    have HV := hide ((unhide HV).fr hF (by have := (unhide HO).c; simp; omega))
    have HF := hide ((unhide HF).trans hF)
    have HV1 := HV
    clear hR hF hd'
    rw [if_pos rfl]
    go_wp2_with fail
    have hb := below1 w1 (.cells #[.int .i64 y, .int .u8 0, .int .u32 0, .int .u32 0, .int .u64 0, .slice none 0 0, .slice none 0 0, .slice none 0 0, .bool false] 73)
    have hs := (unhide HF).size
    have HR := hide ((unhide HR).bel hb)
    have HF := hide ((unhide HF).bel hb)
    have HV := hide ((unhide HV).fr (Fr.of hb []) (by simp))
    have HN := hide (nr_1 w1 hs y)
    have HNi := hide (show W.heap.size < w1.heap.size from by have := (unhide HV1).lt; omega)
    generalize w1.alloc (.cells #[.int .i64 y, .int .u8 0, .int .u32 0, .int .u32 0, .int .u64 0, .slice none 0 0, .slice none 0 0, .slice none 0 0, .bool false] 73) = w2 at *
    generalize w1.heap.size = ib at *
    clear hb hs
    refine ((unhide (unhide HIm)) _).mono ?_
    rintro _ w3 ⟨rfl, hb⟩
    have HR := hide ((unhide HR).bel hb)
    have HF := hide ((unhide HF).bel hb)
    have HV := hide ((unhide HV).fr (Fr.of hb []) (by simp))
    have HN := hide ((unhide HN).fr (Fr.of hb []) (by simp))
    clear hb HIm
    have t0 := (unhide HN).tab 0 _ rfl
    have z0 := (unhide HV).tab 0 _ rfl
    have fz0 := ((unhide HV).room 0 (by decide)).2
    have t1 := (unhide HN).tab 1 _ rfl
    have z1 := (unhide HV).tab 1 _ rfl
    have fz1 := ((unhide HV).room 1 (by decide)).2
    have t2 := (unhide HN).tab 2 _ rfl
    have z2 := (unhide HV).tab 2 _ rfl
    have fz2 := ((unhide HV).room 2 (by decide)).2
    have t3 := (unhide HN).tab 3 _ rfl
    have z3 := (unhide HV).tab 3 _ rfl
    have fz3 := ((unhide HV).room 3 (by decide)).2
    have t4 := (unhide HN).tab 4 _ rfl
    have z4 := (unhide HV).tab 4 _ rfl
    have fz4 := ((unhide HV).room 4 (by decide)).2
    have t5 := (unhide HN).tab 5 _ rfl
    have z5 := (unhide HV).tab 5 _ rfl
    have fz5 := ((unhide HV).room 5 (by decide)).2
    have t6 := (unhide HN).tab 6 _ rfl
    have z6 := (unhide HV).tab 6 _ rfl
    have fz6 := ((unhide HV).room 6 (by decide)).2
    have t7 := (unhide HN).tab 7 _ rfl
    have z7 := (unhide HV).tab 7 _ rfl
    have fz7 := ((unhide HV).room 7 (by decide)).2
    have t8 := (unhide HN).tab 8 _ rfl
    have z8 := (unhide HV).tab 8 _ rfl
    have fz8 := ((unhide HV).room 8 (by decide)).2
    have ne1 : ¬ ib = W.heap.size := by have := unhide HNi; omega
    have ne2 : ¬ W.heap.size = ib := by have := unhide HNi; omega
    (try dsimp only [hd0] at t0 t1 t2 t3 t4 t8)
    (try dsimp only [hd0] at z0 z1 z2 z3 z4 z8)
    go_wp2_with fail
    refine bodyPost_ret (v := .agg #[.int .i64 y, .int .u8 0, .int .u32 0, .int .u32 0, .int .u64 0, .slice none 0 0, .slice none 0 0, .slice none 0 0, .bool false]) (by simp [results, Tryd.results39, go_sem, z0, z1, z2, z3, z4, z5, z6, z7, z8]) rfl ?_
    have fZ := fun w => fr_set9 w W.heap.size (.int .i64 y) (.int .u8 0) (.int .u32 0) (.int .u32 0) (.int .u64 0) (.slice none 0 0) (.slice none 0 0) (.slice none 0 0) (.bool false)
    refine ⟨⟨y, 0, 0, 0, 0, [], false⟩, none, 0, 0, none, 0, 0, none, 0, 0, y, k1, 0, (⟨y, 0, 0, 0, 0, [], false⟩, .nil, .nil), _, _, rfl, unhide HOp, fun _ => unhide HY5, ?_, fun _ => ⟨rfl, slc_nil _ _, fov_nil _ _, fov_nil _ _⟩, (unhide HR).fr (fZ _) (unhide HO) (by simp), (unhide HF).thenL (fZ _) (by simp)⟩
    rw [show rRest (sq sat) deep y = giv (hd0 y, .nil, .nil) by unfold rRest rPlain; have := unhide HV0; rw [if_neg (this 1 (by decide) (by decide)), if_neg (fun q => q.elim (this 2 (by decide) (by decide)) (this 4 (by decide) (by decide))), if_neg (this 3 (by decide) (by decide)), if_neg (this 5 (by decide) (by decide)), if_neg (this 6 (by decide) (by decide)), if_neg (this 7 (by decide) (by decide)), if_neg (this 8 (by decide) (by decide)), if_neg (this 9 (by decide) (by decide)), if_neg (this 10 (by decide) (by decide)), if_neg (this 11 (by decide) (by decide))]]
    exact Rd.giv _ _ _ _
set_option maxHeartbeats 8000000 in
set_option maxRecDepth 100000 in
theorem rins_2 {n : Nat} {may : Bool} {b y v : Int} {k1 : Nat} {c rb : Nat} {a : Option Addr} {len cap : Nat} {xs : List Int} {sat : Bool} {deep k : Nat} {W : World} (HI : Hid (QSeq c rb a len cap xs sat n)) (h : Rq c rb a len cap xs sat k 0 W) (hv : nxV xs k 0 = b) (hk : k < xs.length) (hd : Rd (rOpN sat) xs k 0 y k1 0) (ho : Rd (rOp sat may deep) xs k 0 y k1 0) (hy : 0 ≤ y) (hy5 : ¬ (y = 5 ∨ y = 11)) (him : Ct 58 #[.int .i64 y] (.int .i64 v)) (hi : imI y = 2) (hvv : v = 2) (h2 : decide (2 ≤ b) = true) (h4 : decide (b ≤ 4) = false)  : RInstrP c rb a len cap xs sat may deep k 0 W := by
  have HR := hide h
  have HO : Hid (Old W.heap.size c rb a len) := hide (h.old (Nat.le_refl W.heap.size))
  have HVl := hide hv
  have HNe : Hid (nxE xs k 0 = 0) := hide (by unfold nxE; rw [if_neg (by omega)])
  have HD := hide hd
  have HOp := hide ho
  have HY5 := hide hy5
  have HIm := hide him
  have hneg : ¬ y < 0 := by omega
  subst hvv
  have HV0 := hide hi
  have _ := HI
  clear hi
  clear h hv hk hd ho hy hy5 him
  unfold RInstrP
  go_enter Tryd.func39, Tryd.ntmps39
  go_wp2_with fail
  have hb := below1 W (.cells #[.int .i64 0, .int .u8 0, .int .u32 0, .int .u32 0, .int .u64 0, .slice none 0 0, .slice none 0 0, .slice none 0 0, .bool false] 73)
  have HR := hide ((unhide HR).bel hb)
  have HF := hide (Fr.of hb [c])
  have HV := hide (nr_0 W)
  generalize W.alloc (.cells #[.int .i64 0, .int .u8 0, .int .u32 0, .int .u32 0, .int .u64 0, .slice none 0 0, .slice none 0 0, .slice none 0 0, .bool false] 73) = wr at *
  refine (rnext_any (unhide HR)).mono ?_
  rintro _ w0 ⟨rfl, hR, hF⟩
  rw [unhide HVl]
  rw [unhide HNe] at hR
  have HR := hide hR
  have HV := hide ((unhide HV).fr hF (by have := (unhide HO).c; simp; omega))
  have HF := hide ((unhide HF).trans hF)
  clear hR hF hb
  clear HNe
  go_wp2_with fail
  have hop := rop_any (unhide HR)
  unfold OpP at hop
  refine hop.mono ?_
  clear hop
  rintro _ w1 ⟨y', k1', e1', rfl, hd', hR, hF⟩
  obtain ⟨q1, q2, q3⟩ := Rd.det (unhide HD) hd'
  subst q1
  subst q2
  obtain rfl := q3 rfl
  have HR := hide hR
  have HV := hide ((unhide HV).fr hF (by have := (unhide HO).c; simp; omega))
  have HF := hide ((unhide HF).trans hF)
  have HV1 := HV
  clear hR hF hd'
  rw [if_pos rfl]
  go_wp2_with fail
  have hb := below1 w1 (.cells #[.int .i64 y, .int .u8 0, .int .u32 0, .int .u32 0, .int .u64 0, .slice none 0 0, .slice none 0 0, .slice none 0 0, .bool false] 73)
  have hs := (unhide HF).size
  have HR := hide ((unhide HR).bel hb)
  have HF := hide ((unhide HF).bel hb)
  have HV := hide ((unhide HV).fr (Fr.of hb []) (by simp))
  have HN := hide (nr_1 w1 hs y)
  have HNi := hide (show W.heap.size < w1.heap.size from by have := (unhide HV1).lt; omega)
  generalize w1.alloc (.cells #[.int .i64 y, .int .u8 0, .int .u32 0, .int .u32 0, .int .u64 0, .slice none 0 0, .slice none 0 0, .slice none 0 0, .bool false] 73) = w2 at *
  generalize w1.heap.size = ib at *
  clear hb hs
  refine ((unhide (unhide HIm)) _).mono ?_
  rintro _ w3 ⟨rfl, hb⟩
  have HR := hide ((unhide HR).bel hb)
  have HF := hide ((unhide HF).bel hb)
  have HV := hide ((unhide HV).fr (Fr.of hb []) (by simp))
  have HN := hide ((unhide HN).fr (Fr.of hb []) (by simp))
  clear hb HIm
  have h0 := (unhide HR).rdr.1
  go_wp2_with fail
  clear h0
  have HX := hide (rUint_any (b := 32) (unhide HR).cur (by decide) (by decide))
  have HD1 : Hid (Rd (rU 32) xs k1 0 (lift (rU 32) 0 xs k1 0).1 (lift (rU 32) 0 xs k1 0).2.1 (lift (rU 32) 0 xs k1 0).2.2) := hide Rd.lift
  have hlt := liftU_lt (unhide HR).byt k1 0
  generalize lift (rU 32) 0 xs k1 0 = L at *
  obtain ⟨y1, kk1, ee1⟩ := L
  dsimp only at *
  have iw1 : IntKind.u32.wrap y1 = y1 := u32_id (by omega) (by omega)
  clear hlt
  refine (unhide HX).mono ?_
  rintro _ v1 ⟨rfl, hC, hF⟩
  have HR := hide ((unhide HR).step hF hC)
  have HF := hide ((unhide HF).trans hF)
  have HN := hide ((unhide HN).fr hF (by have := (unhide HO).c; have := (unhide HN).new; simp; omega))
  have HV := hide ((unhide HV).fr hF (by have := (unhide HO).c; simp; omega))
  clear hC hF HX
  have t0 := (unhide HN).tab 0 _ rfl
  have z0 := (unhide HV).tab 0 _ rfl
  have fz0 := ((unhide HV).room 0 (by decide)).2
  have t1 := (unhide HN).tab 1 _ rfl
  have z1 := (unhide HV).tab 1 _ rfl
  have fz1 := ((unhide HV).room 1 (by decide)).2
  have t2 := (unhide HN).tab 2 _ rfl
  have z2 := (unhide HV).tab 2 _ rfl
  have fz2 := ((unhide HV).room 2 (by decide)).2
  have t3 := (unhide HN).tab 3 _ rfl
  have z3 := (unhide HV).tab 3 _ rfl
  have fz3 := ((unhide HV).room 3 (by decide)).2
  have t4 := (unhide HN).tab 4 _ rfl
  have z4 := (unhide HV).tab 4 _ rfl
  have fz4 := ((unhide HV).room 4 (by decide)).2
  have t5 := (unhide HN).tab 5 _ rfl
  have z5 := (unhide HV).tab 5 _ rfl
  have fz5 := ((unhide HV).room 5 (by decide)).2
  have t6 := (unhide HN).tab 6 _ rfl
  have z6 := (unhide HV).tab 6 _ rfl
  have fz6 := ((unhide HV).room 6 (by decide)).2
  have t7 := (unhide HN).tab 7 _ rfl
  have z7 := (unhide HV).tab 7 _ rfl
  have fz7 := ((unhide HV).room 7 (by decide)).2
  have t8 := (unhide HN).tab 8 _ rfl
  have z8 := (unhide HV).tab 8 _ rfl
  have fz8 := ((unhide HV).room 8 (by decide)).2
  have pf := ((unhide HN).room 2 (by decide)).2
  have ne1 : ¬ ib = W.heap.size := by have := unhide HNi; omega
  have ne2 : ¬ W.heap.size = ib := by have := unhide HNi; omega
  (try dsimp only [hd0] at t0 t1 t2 t3 t4 t8)
  (try dsimp only [hd0] at z0 z1 z2 z3 z4 z8)
  go_wp2_with fail
  have fA : Fr [ib] v1 (v1.setCell ⟨ib, 2, none⟩ (.int .u32 y1)) := (Fr.refl _ _).place _ _
  have HR := hide ((unhide HR).fr fA (unhide HO) (by have := (unhide HN).new; simp; omega))
  have HF := hide ((unhide HF).set 2 (Or.inr (unhide HN).new) (.int .u32 y1))
  have HN : Hid (Nv W.heap.size ib (hcells ⟨y, 0, y1, 0, 0, [], false⟩ (.slice none 0 0) (.slice none 0 0) (.slice none 0 0)) _) := hide ((unhide HN).set 2 (.int .u32 y1))
  have HV := hide ((unhide HV).fr fA (by have := unhide HNi; simp; omega))
  clear fA
  refine bodyPost_ret (v := .agg #[.int .i64 y, .int .u8 0, .int .u32 y1, .int .u32 0, .int .u64 0, .slice none 0 0, .slice none 0 0, .slice none 0 0, .bool false]) (by simp [results, Tryd.results39, go_sem, z0, z1, z2, z3, z4, z5, z6, z7, z8]) rfl ?_
  have fZ := fun w => fr_set9 w W.heap.size (.int .i64 y) (.int .u8 0) (.int .u32 y1) (.int .u32 0) (.int .u64 0) (.slice none 0 0) (.slice none 0 0) (.slice none 0 0) (.bool false)
  refine ⟨⟨y, 0, y1, 0, 0, [], false⟩, none, 0, 0, none, 0, 0, none, 0, 0, y, k1, 0, (⟨y, 0, y1, 0, 0, [], false⟩, .nil, .nil), _, _, rfl, unhide HOp, fun _ => unhide HY5, ?_, fun _ => ⟨rfl, slc_nil _ _, fov_nil _ _, fov_nil _ _⟩, (unhide HR).fr (fZ _) (unhide HO) (by simp), (unhide HF).thenL (fZ _) (by simp)⟩
  rw [show rRest (sq sat) deep y = bd inz (rU 32) fun a => giv ({ hd0 y with a := a }, .nil, .nil) by unfold rRest rPlain; rw [unhide HV0]; rfl]
  exact (unhide HD1).bd (Rd.giv _ _ _ _)
set_option maxHeartbeats 8000000 in
set_option maxRecDepth 100000 in
theorem rins_4 {n : Nat} {may : Bool} {b y v : Int} {k1 : Nat} {c rb : Nat} {a : Option Addr} {len cap : Nat} {xs : List Int} {sat : Bool} {deep k : Nat} {W : World} (HI : Hid (QSeq c rb a len cap xs sat n)) (h : Rq c rb a len cap xs sat k 0 W) (hv : nxV xs k 0 = b) (hk : k < xs.length) (hd : Rd (rOpN sat) xs k 0 y k1 0) (ho : Rd (rOp sat may deep) xs k 0 y k1 0) (hy : 0 ≤ y) (hy5 : ¬ (y = 5 ∨ y = 11)) (him : Ct 58 #[.int .i64 y] (.int .i64 v)) (hi : imI y = 4) (hvv : v = 4) (h2 : decide (2 ≤ b) = true) (h4 : decide (b ≤ 4) = false)  : RInstrP c rb a len cap xs sat may deep k 0 W := by
  have HR := hide h
  have HO : Hid (Old W.heap.size c rb a len) := hide (h.old (Nat.le_refl W.heap.size))
  have HVl := hide hv
  have HNe : Hid (nxE xs k 0 = 0) := hide (by unfold nxE; rw [if_neg (by omega)])
  have HD := hide hd
  have HOp := hide ho
  have HY5 := hide hy5
  have HIm := hide him
  have hneg : ¬ y < 0 := by omega
  subst hvv
  have HV0 := hide hi
  have _ := HI
  clear hi
  clear h hv hk hd ho hy hy5 him
  unfold RInstrP
  go_enter Tryd.func39, Tryd.ntmps39
  go_wp2_with fail
  have hb := below1 W (.cells #[.int .i64 0, .int .u8 0, .int .u32 0, .int .u32 0, .int .u64 0, .slice none 0 0, .slice none 0 0, .slice none 0 0, .bool false] 73)
  have HR := hide ((unhide HR).bel hb)
  have HF := hide (Fr.of hb [c])
  have HV := hide (nr_0 W)
  generalize W.alloc (.cells #[.int .i64 0, .int .u8 0, .int .u32 0, .int .u32 0, .int .u64 0, .slice none 0 0, .slice none 0 0, .slice none 0 0, .bool false] 73) = wr at *
  refine (rnext_any (unhide HR)).mono ?_
  rintro _ w0 ⟨rfl, hR, hF⟩
  rw [unhide HVl]
  rw [unhide HNe] at hR
  have HR := hide hR
  have HV := hide ((unhide HV).fr hF (by have := (unhide HO).c; simp; omega))
  have HF := hide ((unhide HF).trans hF)
  clear hR hF hb
  clear HNe
  go_wp2_with fail
  have hop := rop_any (unhide HR)
  unfold OpP at hop
  refine hop.mono ?_
  clear hop
  rintro _ w1 ⟨y', k1', e1', rfl, hd', hR, hF⟩
  obtain ⟨q1, q2, q3⟩ := Rd.det (unhide HD) hd'
  subst q1
  subst q2
  obtain rfl := q3 rfl
  have HR := hide hR
  have HV := hide ((unhide HV).fr hF (by have := (unhide HO).c; simp; omega))
  have HF := hide ((unhide HF).trans hF)
  have HV1 := HV
  clear hR hF hd'
  rw [if_pos rfl]
  go_wp2_with fail
  have hb := below1 w1 (.cells #[.int .i64 y, .int .u8 0, .int .u32 0, .int .u32 0, .int .u64 0, .slice none 0 0, .slice none 0 0, .slice none 0 0, .bool false] 73)
  have hs := (unhide HF).size
  have HR := hide ((unhide HR).bel hb)
  have HF := hide ((unhide HF).bel hb)
  have HV := hide ((unhide HV).fr (Fr.of hb []) (by simp))
  have HN := hide (nr_1 w1 hs y)
  have HNi := hide (show W.heap.size < w1.heap.size from by have := (unhide HV1).lt; omega)
  generalize w1.alloc (.cells #[.int .i64 y, .int .u8 0, .int .u32 0, .int .u32 0, .int .u64 0, .slice none 0 0, .slice none 0 0, .slice none 0 0, .bool false] 73) = w2 at *
  generalize w1.heap.size = ib at *
  clear hb hs
  refine ((unhide (unhide HIm)) _).mono ?_
  rintro _ w3 ⟨rfl, hb⟩
  have HR := hide ((unhide HR).bel hb)
  have HF := hide ((unhide HF).bel hb)
  have HV := hide ((unhide HV).fr (Fr.of hb []) (by simp))
  have HN := hide ((unhide HN).fr (Fr.of hb []) (by simp))
  clear hb HIm
  have h0 := (unhide HR).rdr.1
  go_wp2_with fail
  clear h0
  have HX := hide (rUint_any (b := 32) (unhide HR).cur (by decide) (by decide))
  have HD1 : Hid (Rd (rU 32) xs k1 0 (lift (rU 32) 0 xs k1 0).1 (lift (rU 32) 0 xs k1 0).2.1 (lift (rU 32) 0 xs k1 0).2.2) := hide Rd.lift
  have hlt := liftU_lt (unhide HR).byt k1 0
  generalize lift (rU 32) 0 xs k1 0 = L at *
  obtain ⟨y1, kk1, ee1⟩ := L
  dsimp only at *
  have iw1 : IntKind.u32.wrap y1 = y1 := u32_id (by omega) (by omega)
  clear hlt
  refine (unhide HX).mono ?_
  rintro _ v1 ⟨rfl, hC, hF⟩
  have HR := hide ((unhide HR).step hF hC)
  have HF := hide ((unhide HF).trans hF)
  have HN := hide ((unhide HN).fr hF (by have := (unhide HO).c; have := (unhide HN).new; simp; omega))
  have HV := hide ((unhide HV).fr hF (by have := (unhide HO).c; simp; omega))
  clear hC hF HX
  have t0 := (unhide HN).tab 0 _ rfl
  have z0 := (unhide HV).tab 0 _ rfl
  have fz0 := ((unhide HV).room 0 (by decide)).2
  have t1 := (unhide HN).tab 1 _ rfl
  have z1 := (unhide HV).tab 1 _ rfl
  have fz1 := ((unhide HV).room 1 (by decide)).2
  have t2 := (unhide HN).tab 2 _ rfl
  have z2 := (unhide HV).tab 2 _ rfl
  have fz2 := ((unhide HV).room 2 (by decide)).2
  have t3 := (unhide HN).tab 3 _ rfl
  have z3 := (unhide HV).tab 3 _ rfl
  have fz3 := ((unhide HV).room 3 (by decide)).2
  have t4 := (unhide HN).tab 4 _ rfl
  have z4 := (unhide HV).tab 4 _ rfl
  have fz4 := ((unhide HV).room 4 (by decide)).2
  have t5 := (unhide HN).tab 5 _ rfl
  have z5 := (unhide HV).tab 5 _ rfl
  have fz5 := ((unhide HV).room 5 (by decide)).2
  have t6 := (unhide HN).tab 6 _ rfl
  have z6 := (unhide HV).tab 6 _ rfl
  have fz6 := ((unhide HV).room 6 (by decide)).2
  have t7 := (unhide HN).tab 7 _ rfl
  have z7 := (unhide HV).tab 7 _ rfl
  have fz7 := ((unhide HV).room 7 (by decide)).2
  have t8 := (unhide HN).tab 8 _ rfl
  have z8 := (unhide HV).tab 8 _ rfl
  have fz8 := ((unhide HV).room 8 (by decide)).2
  have pf := ((unhide HN).room 2 (by decide)).2
  have ne1 : ¬ ib = W.heap.size := by have := unhide HNi; omega
  have ne2 : ¬ W.heap.size = ib := by have := unhide HNi; omega
  (try dsimp only [hd0] at t0 t1 t2 t3 t4 t8)
  (try dsimp only [hd0] at z0 z1 z2 z3 z4 z8)
  go_wp2_with fail
  have fA : Fr [ib] v1 (v1.setCell ⟨ib, 2, none⟩ (.int .u32 y1)) := (Fr.refl _ _).place _ _
  have HR := hide ((unhide HR).fr fA (unhide HO) (by have := (unhide HN).new; simp; omega))
  have HF := hide ((unhide HF).set 2 (Or.inr (unhide HN).new) (.int .u32 y1))
  have HN : Hid (Nv W.heap.size ib (hcells ⟨y, 0, y1, 0, 0, [], false⟩ (.slice none 0 0) (.slice none 0 0) (.slice none 0 0)) _) := hide ((unhide HN).set 2 (.int .u32 y1))
  have HV := hide ((unhide HV).fr fA (by have := unhide HNi; simp; omega))
  clear fA
  refine bodyPost_ret (v := .agg #[.int .i64 y, .int .u8 0, .int .u32 y1, .int .u32 0, .int .u64 0, .slice none 0 0, .slice none 0 0, .slice none 0 0, .bool false]) (by simp [results, Tryd.results39, go_sem, z0, z1, z2, z3, z4, z5, z6, z7, z8]) rfl ?_
  have fZ := fun w => fr_set9 w W.heap.size (.int .i64 y) (.int .u8 0) (.int .u32 y1) (.int .u32 0) (.int .u64 0) (.slice none 0 0) (.slice none 0 0) (.slice none 0 0) (.bool false)
  refine ⟨⟨y, 0, y1, 0, 0, [], false⟩, none, 0, 0, none, 0, 0, none, 0, 0, y, k1, 0, (⟨y, 0, y1, 0, 0, [], false⟩, .nil, .nil), _, _, rfl, unhide HOp, fun _ => unhide HY5, ?_, fun _ => ⟨rfl, slc_nil _ _, fov_nil _ _, fov_nil _ _⟩, (unhide HR).fr (fZ _) (unhide HO) (by simp), (unhide HF).thenL (fZ _) (by simp)⟩
  rw [show rRest (sq sat) deep y = bd inz (rU 32) fun a => giv ({ hd0 y with a := a }, .nil, .nil) by unfold rRest rPlain; rw [unhide HV0]; rfl]
  exact (unhide HD1).bd (Rd.giv _ _ _ _)
set_option maxHeartbeats 8000000 in
set_option maxRecDepth 100000 in
theorem rins_5 {n : Nat} {may : Bool} {b y v : Int} {k1 : Nat} {c rb : Nat} {a : Option Addr} {len cap : Nat} {xs : List Int} {sat : Bool} {deep k : Nat} {W : World} (HI : Hid (QSeq c rb a len cap xs sat n)) (h : Rq c rb a len cap xs sat k 0 W) (hv : nxV xs k 0 = b) (hk : k < xs.length) (hd : Rd (rOpN sat) xs k 0 y k1 0) (ho : Rd (rOp sat may deep) xs k 0 y k1 0) (hy : 0 ≤ y) (hy5 : ¬ (y = 5 ∨ y = 11)) (him : Ct 58 #[.int .i64 y] (.int .i64 v)) (hi : imI y = 5) (hvv : v = 5) (h2 : decide (2 ≤ b) = true) (h4 : decide (b ≤ 4) = false)  : RInstrP c rb a len cap xs sat may deep k 0 W := by
  have HR := hide h
  have HO : Hid (Old W.heap.size c rb a len) := hide (h.old (Nat.le_refl W.heap.size))
  have HVl := hide hv
  have HNe : Hid (nxE xs k 0 = 0) := hide (by unfold nxE; rw [if_neg (by omega)])
  have HD := hide hd
  have HOp := hide ho
  have HY5 := hide hy5
  have HIm := hide him
  have hneg : ¬ y < 0 := by omega
  subst hvv
  have HV0 := hide hi
  have _ := HI
  clear hi
  clear h hv hk hd ho hy hy5 him
  unfold RInstrP
  go_enter Tryd.func39, Tryd.ntmps39
  go_wp2_with fail
  have hb := below1 W (.cells #[.int .i64 0, .int .u8 0, .int .u32 0, .int .u32 0, .int .u64 0, .slice none 0 0, .slice none 0 0, .slice none 0 0, .bool false] 73)
  have HR := hide ((unhide HR).bel hb)
  have HF := hide (Fr.of hb [c])
  have HV := hide (nr_0 W)
  generalize W.alloc (.cells #[.int .i64 0, .int .u8 0, .int .u32 0, .int .u32 0, .int .u64 0, .slice none 0 0, .slice none 0 0, .slice none 0 0, .bool false] 73) = wr at *
  refine (rnext_any (unhide HR)).mono ?_
  rintro _ w0 ⟨rfl, hR, hF⟩
  rw [unhide HVl]
  rw [unhide HNe] at hR
  have HR := hide hR
  have HV := hide ((unhide HV).fr hF (by have := (unhide HO).c; simp; omega))
  have HF := hide ((unhide HF).trans hF)
  clear hR hF hb
  clear HNe
  go_wp2_with fail
  have hop := rop_any (unhide HR)
  unfold OpP at hop
  refine hop.mono ?_
  clear hop
  rintro _ w1 ⟨y', k1', e1', rfl, hd', hR, hF⟩
  obtain ⟨q1, q2, q3⟩ := Rd.det (unhide HD) hd'
  subst q1
  subst q2
  obtain rfl := q3 rfl
  have HR := hide hR
  have HV := hide ((unhide HV).fr hF (by have := (unhide HO).c; simp; omega))
  have HF := hide ((unhide HF).trans hF)
  have HV1 := HV
  clear hR hF hd'
  rw [if_pos rfl]
  go_wp2_with fail
  have hb := below1 w1 (.cells #[.int .i64 y, .int .u8 0, .int .u32 0, .int .u32 0, .int .u64 0, .slice none 0 0, .slice none 0 0, .slice none 0 0, .bool false] 73)
  have hs := (unhide HF).size
  have HR := hide ((unhide HR).bel hb)
  have HF := hide ((unhide HF).bel hb)
  have HV := hide ((unhide HV).fr (Fr.of hb []) (by simp))
  have HN := hide (nr_1 w1 hs y)
  have HNi := hide (show W.heap.size < w1.heap.size from by have := (unhide HV1).lt; omega)
  generalize w1.alloc (.cells #[.int .i64 y, .int .u8 0, .int .u32 0, .int .u32 0, .int .u64 0, .slice none 0 0, .slice none 0 0, .slice none 0 0, .bool false] 73) = w2 at *
  generalize w1.heap.size = ib at *
  clear hb hs
  refine ((unhide (unhide HIm)) _).mono ?_
  rintro _ w3 ⟨rfl, hb⟩
  have HR := hide ((unhide HR).bel hb)
  have HF := hide ((unhide HF).bel hb)
  have HV := hide ((unhide HV).fr (Fr.of hb []) (by simp))
  have HN := hide ((unhide HN).fr (Fr.of hb []) (by simp))
  clear hb HIm
  have h0 := (unhide HR).rdr.1
  go_wp2_with fail
  clear h0
  have HX := hide (rUint_any (b := 32) (unhide HR).cur (by decide) (by decide))
  have HD1 : Hid (Rd (rU 32) xs k1 0 (lift (rU 32) 0 xs k1 0).1 (lift (rU 32) 0 xs k1 0).2.1 (lift (rU 32) 0 xs k1 0).2.2) := hide Rd.lift
  have hlt := liftU_lt (unhide HR).byt k1 0
  generalize lift (rU 32) 0 xs k1 0 = L at *
  obtain ⟨y1, kk1, ee1⟩ := L
  dsimp only at *
  have iw1 : IntKind.u32.wrap y1 = y1 := u32_id (by omega) (by omega)
  clear hlt
  refine (unhide HX).mono ?_
  rintro _ v1 ⟨rfl, hC, hF⟩
  have HR := hide ((unhide HR).step hF hC)
  have HF := hide ((unhide HF).trans hF)
  have HN := hide ((unhide HN).fr hF (by have := (unhide HO).c; have := (unhide HN).new; simp; omega))
  have HV := hide ((unhide HV).fr hF (by have := (unhide HO).c; simp; omega))
  clear hC hF HX
  have h0 := (unhide HR).rdr.1
  obtain ⟨⟨u, g⟩, fr⟩ := (unhide HN).room 2 (by decide)
  go_wp2_with fail
  clear fr g u
  clear h0
  have fA : Fr [ib] v1 (v1.setCell ⟨ib, 2, none⟩ (.int .u32 y1)) := (Fr.refl _ _).place _ _
  have HR := hide ((unhide HR).fr fA (unhide HO) (by have := (unhide HN).new; simp; omega))
  have HF := hide ((unhide HF).set 2 (Or.inr (unhide HN).new) (.int .u32 y1))
  have HN : Hid (Nv W.heap.size ib (hcells ⟨y, 0, y1, 0, 0, [], false⟩ (.slice none 0 0) (.slice none 0 0) (.slice none 0 0)) _) := hide ((unhide HN).set 2 (.int .u32 y1))
  have HV := hide ((unhide HV).fr fA (by have := unhide HNi; simp; omega))
  clear fA
  generalize v1.setCell ⟨ib, 2, none⟩ (.int .u32 y1) = v1s at *
  refine (rzero_any (unhide HR)).mono ?_
  rintro _ v2 ⟨kk2, ee2, rfl, hd, hR, hF⟩
  have HD2 := hide hd
  have HR := hide hR
  have HF := hide ((unhide HF).trans hF)
  have HN := hide ((unhide HN).fr hF (by have := (unhide HO).c; have := (unhide HN).new; simp; omega))
  have HV := hide ((unhide HV).fr hF (by have := (unhide HO).c; simp; omega))
  clear hd hR hF
  have t0 := (unhide HN).tab 0 _ rfl
  have z0 := (unhide HV).tab 0 _ rfl
  have fz0 := ((unhide HV).room 0 (by decide)).2
  have t1 := (unhide HN).tab 1 _ rfl
  have z1 := (unhide HV).tab 1 _ rfl
  have fz1 := ((unhide HV).room 1 (by decide)).2
  have t2 := (unhide HN).tab 2 _ rfl
  have z2 := (unhide HV).tab 2 _ rfl
  have fz2 := ((unhide HV).room 2 (by decide)).2
  have t3 := (unhide HN).tab 3 _ rfl
  have z3 := (unhide HV).tab 3 _ rfl
  have fz3 := ((unhide HV).room 3 (by decide)).2
  have t4 := (unhide HN).tab 4 _ rfl
  have z4 := (unhide HV).tab 4 _ rfl
  have fz4 := ((unhide HV).room 4 (by decide)).2
  have t5 := (unhide HN).tab 5 _ rfl
  have z5 := (unhide HV).tab 5 _ rfl
  have fz5 := ((unhide HV).room 5 (by decide)).2
  have t6 := (unhide HN).tab 6 _ rfl
  have z6 := (unhide HV).tab 6 _ rfl
  have fz6 := ((unhide HV).room 6 (by decide)).2
  have t7 := (unhide HN).tab 7 _ rfl
  have z7 := (unhide HV).tab 7 _ rfl
  have fz7 := ((unhide HV).room 7 (by decide)).2
  have t8 := (unhide HN).tab 8 _ rfl
  have z8 := (unhide HV).tab 8 _ rfl
  have fz8 := ((unhide HV).room 8 (by decide)).2
  have ne1 : ¬ ib = W.heap.size := by have := unhide HNi; omega
  have ne2 : ¬ W.heap.size = ib := by have := unhide HNi; omega
  (try dsimp only [hd0] at t0 t1 t2 t3 t4 t8)
  (try dsimp only [hd0] at z0 z1 z2 z3 z4 z8)
  go_wp2_with fail
  refine bodyPost_ret (v := .agg #[.int .i64 y, .int .u8 0, .int .u32 y1, .int .u32 0, .int .u64 0, .slice none 0 0, .slice none 0 0, .slice none 0 0, .bool false]) (by simp [results, Tryd.results39, go_sem, z0, z1, z2, z3, z4, z5, z6, z7, z8]) rfl ?_
  have fZ := fun w => fr_set9 w W.heap.size (.int .i64 y) (.int .u8 0) (.int .u32 y1) (.int .u32 0) (.int .u64 0) (.slice none 0 0) (.slice none 0 0) (.slice none 0 0) (.bool false)
  refine ⟨⟨y, 0, y1, 0, 0, [], false⟩, none, 0, 0, none, 0, 0, none, 0, 0, y, k1, 0, (⟨y, 0, y1, 0, 0, [], false⟩, .nil, .nil), _, _, rfl, unhide HOp, fun _ => unhide HY5, ?_, fun _ => ⟨rfl, slc_nil _ _, fov_nil _ _, fov_nil _ _⟩, (unhide HR).fr (fZ _) (unhide HO) (by simp), (unhide HF).thenL (fZ _) (by simp)⟩
  rw [show rRest (sq sat) deep y = bd inz (rU 32) fun a => bd inz r0 fun _ => giv ({ hd0 y with a := a }, .nil, .nil) by unfold rRest rPlain; rw [unhide HV0]; rfl]
  exact (unhide HD1).bd ((unhide HD2).bd (Rd.giv _ _ _ _))
end Go.Proofs.YtalahdkgigcpfaaDoor
