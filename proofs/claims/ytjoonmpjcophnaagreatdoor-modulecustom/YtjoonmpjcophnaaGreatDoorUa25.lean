/- ScO. -/
import Derived.Test.YtjoonmpjcophnaaGreatDoorUa09
import Derived.Test.YtjoonmpjcophnaaGreatDoorUa20
import Derived.Test.YtjoonmpjcophnaaGreatDoorUa22
import Derived.Lib.SliceRun
namespace Go.Proofs.YtjoonmpjcophnaaGreatDoor
open Go.RowKit

theorem bys_off {w : World} {b off m : Nat} {xs : List Int} (h : ∀ j, j < m → w.cell? ⟨b, off + j, none⟩ = some (.int .u8 (xs.getD j 0))) (hl : xs.length = m) : ∀ j u, (bys xs)[j]? = some u → w.cell? ((⟨b, off, none⟩ : Addr).add j) = some u := by
  intro j u hu
  have hj : j < xs.length := by
    refine Decidable.byContradiction fun hn => ?_
    rw [List.getElem?_eq_none (by rw [bys_len]; omega)] at hu
    cases hu
  rw [bys_at xs j hj] at hu
  rw [Addr.add_lit, h j (by omega), hu]
/-- An owned row is a slice. -/
theorem Ow.slice {w : World} {B : Nat} {v : Value} {xs : List Int} (h : Ow w B v xs) (hl : xs.length ≤ 1000000) : ∃ a cap, v = .slice a xs.length cap ∧ Sl w a xs.length cap xs := by
  by_cases hn : xs = []
  · subst hn
    obtain ⟨_, h2⟩ := h
    rcases h2 with ⟨h3, _⟩ | ⟨g, cap, cur, h2, h3, h4, h5, h6, h7, h8⟩
    · exact ⟨none, 0, h3, rfl, Nat.le_refl _, by simp, Or.inl ⟨rfl, rfl, rfl⟩⟩
    · exact ⟨some ⟨g, 0, none⟩, cap, h2, rfl, Nat.zero_le _, by simp, Or.inr ⟨g, 0, rfl, fun j hj => by simp at hj⟩⟩
  · obtain ⟨g, cap, he, _⟩ := h.form hn
    subst he
    exact ⟨_, _, rfl, h.sl hn (by omega)⟩
set_option maxRecDepth 100000 in
/-- What is appended to an owned row. -/
theorem app_run {w : World} {B : Nat} {v : Value} {xs ys : List Int} {a : Option Addr} {m c : Nat} (hO : Ow w B v xs) (hB : B ≤ w.heap.size) (hS : Sl w a m c ys) (hl : xs.length + m ≤ 100000) :
    ∃ a' cap w', (Builtin.append_ #[22, 22] 22 #[v, .slice a m c]).run Tryz.prog w = .ok (.slice a' (xs.length + m) cap) w' ∧ Ow w' B (.slice a' (xs.length + m) cap) (xs ++ ys) ∧ Sl w' a' (xs.length + m) cap (xs ++ ys) ∧ Below B w w' := by
  have hm := hS.1
  have key : ∃ v' w', (Builtin.append_ #[22, 22] 22 #[v, .slice a m c]).run Tryz.prog w = .ok v' w' ∧ Ow w' B v' (xs ++ ys) ∧ Below B w w' := by
    rcases hS.2.2.2 with ⟨rfl, rfl, rfl⟩ | ⟨b, off, rfl, h4⟩
    · have e : ys = [] := List.eq_nil_of_length_eq_zero hm
      subst e
      exact ⟨v, w, run_append_owned_none (P := Tryz.prog) (w := w) B 22 22 5 _ 1 Tryz.underlying22 iU8 v xs.length (bys xs) hO, by rw [List.append_nil]; exact hO, Below.refl _ _⟩
    · obtain ⟨v', w', h1, h2, h3, _⟩ := run_append_own (P := Tryz.prog) w B 22 22 5 _ (.int .u8 0) 1 1 Tryz.underlying22 iU8 rfl rfl rfl rfl (by decide) v xs.length (bys xs) hO ⟨b, off, none⟩ m c (bys ys) (by rw [bys_len, hm, Nat.mul_one]) (bys_off h4 hm) (bys_cell ys) (by unfold maxLen; omega) (by omega) hB
      refine ⟨v', w', h1, ?_, (Below.refl B w).grown h3 hB (fun k hk => (World.ownsRow.lt hO k hk).1)⟩
      unfold Ow
      rw [bys_app, List.length_append, hm]
      exact h2
  obtain ⟨v', w', h1, h2, h3⟩ := key
  obtain ⟨a', cap, rfl, h5⟩ := h2.slice (by rw [List.length_append]; omega)
  rw [List.length_append, hm] at h1 h2 h5
  exact ⟨a', cap, w', h1, h2, h5, h3⟩
/-- An append that is known, guarded or not. -/
theorem wpList_app {ops : Array Oper} {rest : List Oper} {dst : Option Tmp} {s x : Operand} {pos : String} {af : Array Edge} {g : Option (Nat × Bool)} {a : Act} {w w' : World} {Q : Exit → Act → World → Prop} {v u v' : Value}
    (hw : Region.wanted ⟨dst, .call { callee := .builtin .append, args := #[s, x], argTypes := #[22, 22] }, 22, pos, af, g⟩ (yielded ops a.tmps) = true)
    (hs : a.eval s = v) (hx : a.eval x = u) (hrun : (Builtin.append_ #[22, 22] 22 #[v, u]).run Tryz.prog w = .ok v' w') (h : wpList Tryz.prog ops Q rest (a.put dst v') w') :
    wpList Tryz.prog ops Q (⟨dst, .call { callee := .builtin .append, args := #[s, x], argTypes := #[22, 22] }, 22, pos, af, g⟩ :: rest) a w := by
  refine BigFrame.wpList_want hw fun K hK => ?_
  unfold Oper.wp
  simp only [execOp, resolve, invoke, builtin, Sem.run_bind, Sem.run_pure, Result.andThen_ok, List.map_toArray, List.map_cons, List.map_nil, hs, hx, hrun]
  exact hK _ _ h
theorem ow_lit (w : World) (xs : List Int) (n : Nat) (h : xs.length = n) (hn : n ≤ 1000) : Ow (w.alloc (.cells (bys xs).toArray 5)) w.heap.size (.slice (some ⟨w.heap.size, 0, none⟩) n n) xs := by
  have := World.ownsRow_lit (base := w.heap.size) (e := 5) (size := 1) w (bys xs).toArray n (Nat.le_refl _) (by unfold maxLen; omega) (by simp [bys, h])
  unfold Ow
  rw [h]
  exact this
/-- An owned row is a slice in memory of its own. -/
theorem Ow.nw {w : World} {B : Nat} {v : Value} {xs : List Int} (h : Ow w B v xs) (hl : xs.length ≤ 1000000) : ∃ a cap, v = .slice a xs.length cap ∧ Nw B a xs.length cap xs w := by
  by_cases hn : xs = []
  · obtain ⟨a, cap, h1, h2⟩ := h.slice hl
    exact ⟨a, cap, h1, h2, fun p _ h0 => by rw [hn] at h0; simp at h0⟩
  · obtain ⟨g, cap, he, hg, _⟩ := h.form hn
    subst he
    exact ⟨_, _, rfl, h.sl hn (by omega), fun p hp _ => by injection hp with hp; subst hp; exact hg⟩
set_option maxHeartbeats 1000000 in
set_option maxRecDepth 100000 in
theorem clone_any {x1 : Option Addr} {x2 x3 : Nat} {ys : List Int} {W : World} (h : Sl W x1 x2 x3 ys) (hl : x2 ≤ 7000) :
    Calls Tryz.prog 35 #[.slice x1 x2 x3] W fun r W' => ∃ y1 y3, r = .returned (.slice y1 x2 y3) ∧ Nw W.heap.size y1 x2 y3 ys W' ∧ Fr [] W W' := by
  rcases h.2.2.2 with ⟨rfl, rfl, rfl⟩ | ⟨b, off, rfl, h4⟩
  · have e : ys = [] := List.eq_nil_of_length_eq_zero h.1
    subst e
    clear h
    have hq : ∀ w, (binOp .eql 22 (.slice none 0 0) (.slice none 0 0)).run Tryz.prog w = .ok (.bool true) w := fun w => Go.Lib.run_eql_slice_nil w 22 5 none 0 0 0 0 Tryz.underlying22
    go_enter Tryz.func35, Tryz.ntmps35
    go_wp2_with fail
    go_ret
    exact ⟨none, 0, rfl, nw_nil _ _, Fr.refl _ _⟩
  · obtain ⟨a', cap, w', h1, h2, h3, h4⟩ := app_run (ow_lit W [] 0 rfl (by omega)) (by simp) (h.below (below1 W _)) (by simp; omega)
    have hx := h.1
    obtain ⟨a2, cap2, e2, h5⟩ := h2.nw (by rw [List.length_append, hx]; simp; omega)
    have HR := hide h1
    have HV : Hid (∃ y1 y3, Value.slice a' (List.length ([] : List Int) + x2) cap = .slice y1 x2 y3 ∧ Nw W.heap.size y1 x2 y3 ys w' ∧ Fr [] W w') := hide ⟨a2, cap2, by rw [e2]; simp [hx], by simpa [hx] using h5, Fr.of ((below1 W _).trans h4) []⟩
    clear h h1 h2 h3 h4 h5 e2 hx
    have hq : ∀ w, (binOp .eql 22 (.slice (some ⟨b, off, none⟩) x2 x3) (.slice none 0 0)).run Tryz.prog w = .ok (.bool false) w := fun w => Go.Lib.run_eql_slice_nil w 22 5 (some ⟨b, off, none⟩) x2 x3 0 0 Tryz.underlying22
    go_enter Tryz.func35, Tryz.ntmps35
    go_wp2_with (at_builtin; refine wpList_app (by rfl) rfl rfl (unhide HR) ?_)
    go_ret
    obtain ⟨y1, y3, q1, q2⟩ := unhide HV
    exact ⟨y1, y3, by show Ending.returned (.slice a' x2 cap) = _; rw [← q1]; simp, q2⟩
set_option maxHeartbeats 1000000 in
set_option maxRecDepth 100000 in
theorem clone_nil {W : World} : Calls Tryz.prog 35 #[.slice none 0 0] W fun r W' => r = .returned (.slice none 0 0) ∧ W' = W := by
  have hq : ∀ w, (binOp .eql 22 (.slice none 0 0) (.slice none 0 0)).run Tryz.prog w = .ok (.bool true) w := fun w => Go.Lib.run_eql_slice_nil w 22 5 none 0 0 0 0 Tryz.underlying22
  go_enter Tryz.func35, Tryz.ntmps35
  go_wp2_with fail
  go_ret
  exact ⟨rfl, rfl⟩
end Go.Proofs.YtjoonmpjcophnaaGreatDoor
