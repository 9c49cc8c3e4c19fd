/- The law UtfBack: appends, and its walk. -/
import Derived.Test.YtfjoejgioinfhaaLawD
namespace Go.Proofs.Ytfjoejgioinfhaa
open Go.RowKit

theorem bys_off {w : World} {b off m : Nat} {xs : List Int} (h : ∀ j, j < m → w.cell? ⟨b, off + j, none⟩ = some (.int .u8 (xs.getD j 0))) (hl : xs.length = m) : ∀ j u, (bys xs)[j]? = some u → w.cell? ((⟨b, off, none⟩ : Addr).add j) = some u := by
  intro j u hu
  have hj : j < xs.length := by
    refine Decidable.byContradiction fun hn => ?_
    rw [List.getElem?_eq_none (by rw [bys_len]; omega)] at hu
    cases hu
  rw [bys_at xs j hj] at hu
  rw [Addr.add_lit, h j (by omega), hu]
/-- An owned row is a slice. -/
theorem Ow.slice {w : World} {B : Nat} {v : Value} {xs : List Int} (h : Ow w B v xs) (hl : xs.length ≤ 1000000) : ∃ a cap, v = .slice a xs.length cap ∧ Sl w a xs.length cap xs := by
  by_cases hn : xs = []
  · subst hn
    obtain ⟨_, h2⟩ := h
    rcases h2 with ⟨h3, _⟩ | ⟨g, cap, cur, h2, h3, h4, h5, h6, h7, h8⟩
    · exact ⟨none, 0, h3, rfl, Nat.le_refl _, by simp, Or.inl ⟨rfl, rfl, rfl⟩⟩
    · exact ⟨some ⟨g, 0, none⟩, cap, h2, rfl, Nat.zero_le _, by simp, Or.inr ⟨g, 0, rfl, fun j hj => by simp at hj⟩⟩
  · obtain ⟨g, cap, he, _⟩ := h.form hn
    subst he
    exact ⟨_, _, rfl, h.sl hn (by omega)⟩
/-- What is appended to an owned row. -/
theorem app_run {w : World} {B : Nat} {v : Value} {xs ys : List Int} {a : Option Addr} {m c : Nat} (hO : Ow w B v xs) (hB : B ≤ w.heap.size) (hS : Sl w a m c ys) (hl : xs.length + m ≤ 100000) :
    ∃ a' cap w', (Builtin.append_ #[22, 22] 22 #[v, .slice a m c]).run Try.prog w = .ok (.slice a' (xs.length + m) cap) w' ∧ Ow w' B (.slice a' (xs.length + m) cap) (xs ++ ys) ∧ Sl w' a' (xs.length + m) cap (xs ++ ys) ∧ Below B w w' := by
  have hm := hS.1
  have key : ∃ v' w', (Builtin.append_ #[22, 22] 22 #[v, .slice a m c]).run Try.prog w = .ok v' w' ∧ Ow w' B v' (xs ++ ys) ∧ Below B w w' := by
    rcases hS.2.2.2 with ⟨rfl, rfl, rfl⟩ | ⟨b, off, rfl, h4⟩
    · have e : ys = [] := List.eq_nil_of_length_eq_zero hm
      subst e
      exact ⟨v, w, run_append_owned_none (P := Try.prog) (w := w) B 22 22 5 _ 1 Try.underlying22 iU8 v xs.length (bys xs) hO, by rw [List.append_nil]; exact hO, Below.refl _ _⟩
    · obtain ⟨v', w', h1, h2, h3, _⟩ := run_append_own (P := Try.prog) w B 22 22 5 _ (.int .u8 0) 1 1 Try.underlying22 iU8 rfl rfl rfl rfl (by decide) v xs.length (bys xs) hO ⟨b, off, none⟩ m c (bys ys) (by rw [bys_len, hm, Nat.mul_one]) (bys_off h4 hm) (bys_cell ys) (by unfold maxLen; omega) (by omega) hB
      refine ⟨v', w', h1, ?_, (Below.refl B w).grown h3 hB (fun k hk => (World.ownsRow.lt hO k hk).1)⟩
      unfold Ow
      rw [bys_app, List.length_append, hm]
      exact h2
  obtain ⟨v', w', h1, h2, h3⟩ := key
  obtain ⟨a', cap, rfl, h5⟩ := h2.slice (by rw [List.length_append]; omega)
  rw [List.length_append, hm] at h1 h2 h5
  exact ⟨a', cap, w', h1, h2, h5, h3⟩
/-- An append that is known, guarded or not. -/
theorem wpList_app {ops : Array Oper} {rest : List Oper} {dst : Option Tmp} {s x : Operand} {pos : String} {af : Array Edge} {g : Option (Nat × Bool)} {a : Act} {w w' : World} {Q : Exit → Act → World → Prop} {v u v' : Value}
    (hw : Region.wanted ⟨dst, .call { callee := .builtin .append, args := #[s, x], argTypes := #[22, 22] }, 22, pos, af, g⟩ (yielded ops a.tmps) = true)
    (hs : a.eval s = v) (hx : a.eval x = u) (hrun : (Builtin.append_ #[22, 22] 22 #[v, u]).run Try.prog w = .ok v' w') (h : wpList Try.prog ops Q rest (a.put dst v') w') :
    wpList Try.prog ops Q (⟨dst, .call { callee := .builtin .append, args := #[s, x], argTypes := #[22, 22] }, 22, pos, af, g⟩ :: rest) a w := by
  refine BigFrame.wpList_want hw fun K hK => ?_
  unfold Oper.wp
  simp only [execOp, resolve, invoke, builtin, Sem.run_bind, Sem.run_pure, Result.andThen_ok, List.map_toArray, List.map_cons, List.map_nil, hs, hx, hrun]
  exact hK _ _ h
theorem ow_lit (w : World) (xs : List Int) (n : Nat) (h : xs.length = n) (hn : n ≤ 1000) : Ow (w.alloc (.cells (bys xs).toArray 5)) w.heap.size (.slice (some ⟨w.heap.size, 0, none⟩) n n) xs := by
  have := World.ownsRow_lit (base := w.heap.size) (e := 5) (size := 1) w (bys xs).toArray n (Nat.le_refl _) (by unfold maxLen; omega) (by simp [bys, h])
  unfold Ow
  rw [h]
  exact this
theorem flat_byt (cs : List Int) : Byt (flat cs) := by
  intro x hx
  obtain ⟨y, _, hy⟩ := List.mem_flatMap.1 hx
  exact put_byt y x hy
theorem flat_len (cs : List Int) : (flat cs).length ≤ 4 * cs.length := by
  induction cs with
  | nil => simp [flat]
  | cons c cs ih =>
    have := sz_le c
    rw [flat_cons, List.length_append, put_len, List.length_cons]
    omega
/-- What is put is told as it was. -/
theorem next_put {W : World} {a : Option Addr} {cap L z : Nat} {cs : List Int} {c : Int} (hz : sz c = z) (h0 : z ≠ 0) (hL : (flat cs).length = L) (hS : Sl W a (L + z) cap (flat cs ++ put c)) :
    Calls Try.prog 8 #[.slice a (L + z : Nat) cap, .int .i64 (L : Int)] W fun r W' => r = .returned (.tuple #[.int .i32 c, .int .i64 ((L + z : Nat) : Int), .bool true]) ∧ Below W.heap.size W W' := by
  have h := next_any (k := L) (byt_app (flat_byt cs) (put_byt c)) hS (by omega)
  have hzc : sz c ≠ 0 := by omega
  have e : (flat cs ++ put c).drop L = put c ++ [] := by rw [List.drop_left' hL, List.append_nil]
  have hc0 : 0 ≤ c := by rcases sz_ways c with k | k | k | k | k <;> omega
  rw [e] at h
  have e2 : nxT L (put c ++ []) = .tuple #[.int .i32 c, .int .i64 ((L + z : Nat) : Int), .bool true] := by
    unfold nxT
    rw [if_pos ⟨by simp [put_ne hzc], isC_put hzc []⟩, dc_put hzc]
    show Value.tuple #[.int .i32 ((c.toNat : Nat) : Int), .int .i64 ((L + sz c : Nat) : Int), .bool true] = _
    rw [Int.toNat_of_nonneg hc0, hz]
  rw [e2] at h
  exact h
set_option maxHeartbeats 1000000 in
set_option maxRecDepth 100000 in
theorem back_big {a a' : Option Addr} {len cap len' cap' : Nat} (W : World) (h : (100 : Int) < (len : Int) ∨ (100 : Int) < (len' : Int)) :
    Calls Try.prog 5 #[.slice a len cap, .slice a' len' cap'] W fun r W' => r = .returned (.bool true) ∧ Below W.heap.size W W' := by
  have HA := awake_any
  by_cases h1 : (100 : Int) < (len : Int)
  · have d1 : decide ((100 : Int) < (len : Int)) = true := decide_eq_true h1
    clear h
    go_enter Try.func5, Try.ntmps5
    go_wp2_with fail
    refine (unhide HA _).mono ?_
    rintro _ w1 ⟨rfl, hb⟩
    go_wp2_with fail
    go_ret
    exact ⟨rfl, hb⟩
  · have d1 : decide ((100 : Int) < (len : Int)) = false := decide_eq_false h1
    have d2 : decide ((100 : Int) < (len' : Int)) = true := decide_eq_true (by omega)
    clear h
    go_enter Try.func5, Try.ntmps5
    go_wp2_with fail
    refine (unhide HA _).mono ?_
    rintro _ w1 ⟨rfl, hb⟩
    go_wp2_with fail
    go_ret
    exact ⟨rfl, hb⟩
end Go.Proofs.Ytfjoejgioinfhaa
