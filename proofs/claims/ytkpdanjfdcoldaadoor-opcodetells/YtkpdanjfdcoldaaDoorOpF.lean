/- opcode.Name. -/
import Derived.Test.YtkpdanjfdcoldaaDoorOpE
namespace Go.Proofs.YtkpdanjfdcoldaaDoor
open Go.RowKit
attribute [local go_sem] Oper.semAt_some

set_option maxHeartbeats 4000000 in
set_option maxRecDepth 100000 in
theorem opcodes_any (f : Int) (x : ByteArray) (W : World) : Calls Tryd.prog 18 #[.agg #[.int .i64 f, .string x]] W fun e W' => e = .returned (.func (.func 35) #[] #[.pointer (some ⟨W.heap.size, 0, none⟩)]) ∧ W' = W.alloc (.cells #[.int .i64 f, .string x] 42) := by
  go_enter Tryd.func18, Tryd.ntmps18
  go_wp2
  go_ret
  exact ⟨rfl, rfl⟩
/-- The first name of that number; nothing, if there is none. -/
def nmOf (op : Int) (l : List (Int × List UInt8)) : List UInt8 := ((l.find? (fun p => p.1 == op)).map (·.2)).getD []
theorem nm_none {op : Int} {l : List (Int × List UInt8)} (h : ∀ y ∈ l, y.1 ≠ op) : nmOf op l = [] := by
  have : l.find? (fun p => p.1 == op) = none := List.find?_eq_none.2 (fun x hx => by simpa using h x hx)
  simp [nmOf, this]
theorem nm_hit {op : Int} {p r : List (Int × List UInt8)} {x : Int × List UInt8} (h : ∀ y ∈ p, y.1 ≠ op) (hx : x.1 = op) : nmOf op (p ++ [x] ++ r) = x.2 := by
  have : p.find? (fun p => p.1 == op) = none := List.find?_eq_none.2 (fun x hx => by simpa using h x hx)
  simp [nmOf, List.find?_append, this, hx]
theorem trueK_t {A B C : World} (_ : (fun (_ _ : World) => True) A B) (_ : (fun (_ _ : World) => True) B C) : (fun (_ _ : World) => True) A C := trivial
theorem stops (n : Nat) (hn : 1 ≤ n) (Bn : Nat) (f : Int) (ws : List (List UInt8)) (hws : Wds ws) (hl : (bs (jn ws)).size < 4294967281) (hf0 : 0 ≤ f) (hf1 : f + ws.length < 4294967296) (w : World)
    (hB0 : w.cell? ⟨Bn, 0, none⟩ = some (.int .i64 f)) (hB1 : w.cell? ⟨Bn, 1, none⟩ = some (.string (bs (jn ws)))) :
    SeqStopsK Fence.wide n Tryd.prog 35 #[.pointer (some ⟨Bn, 0, none⟩)] en2 (fun _ _ => True) (fun ys => ys = prs f ws) (fun pre => pre <+: prs f ws) ws.length w := fun l J Jx W hW hJ _ hY h0 =>
  iter_in n hn l Bn W.heap.size f ws hws hl hf0 hf1 J Jx hJ hY W (keep1 hW (lt_of_cell hB0) hB0) (keep1 hW (lt_of_cell hB0) hB1) h0
set_option maxHeartbeats 4000000 in
set_option maxRecDepth 100000 in
theorem name_s (f : Int) (ws : List (List UInt8)) (hws : Wds ws) (hl : (bs (jn ws)).size < 4294967281) (hf0 : 0 ≤ f) (hf1 : f + ws.length < 4294967296) (op : Int)
    (HO : Hid (∀ W, Calls Tryd.prog 17 #[.int .i64 op] W fun e W' => e = .returned (.agg #[.int .i64 f, .string (bs (jn ws))]) ∧ Below W.heap.size W W')) (W : World) :
    Calls Tryd.prog 8 #[.int .i64 op] W fun e W' => e = .returned (.string (bs (nmOf op (prs f ws)))) ∧ Below W.heap.size W W' := by
  refine (callsIn_wide (n := 5)).1 ?_
  refine callsIn_of_wp_marks Tryd.func8 rfl trivial ?_ rfl
  simp only [Tryd.ntmps8, List.size_toArray, List.length_cons, List.length_nil, Nat.reduceAdd, Nat.reduceSub, Array.replicate_succ, Array.replicate_zero, List.push_toArray, List.append_toArray, List.nil_append, List.cons_append]
  gi_wp2
  refine ⟨trivial, callsIn_wide.2 (((unhide HO) _).mono ?_)⟩
  rintro e w1 ⟨rfl, hb1⟩
  gi_wp2
  refine ⟨trivial, callsIn_wide.2 ((opcodes_any _ _ _).mono ?_)⟩
  rintro e w2 ⟨rfl, rfl⟩
  gi_wp2
  have c0 : w1.cell? ⟨W.heap.size, 0, none⟩ = some (.int .i64 op) := keep1 hb1 (by simp; omega) (by simp)
  have c1 : w1.cell? ⟨W.heap.size + 1, 0, none⟩ = some (.string (bs [])) := keep1 hb1 (by simp) (by simp [bs])
  have f1 : w1.frozen? ⟨W.heap.size + 1, 0, none⟩ = false := (hb1.frozen (p := ⟨W.heap.size + 1, 0, none⟩) (by simp)).trans (by simp)
  have hbW : Below W.heap.size W w1 := (below2 W _ _).trans (hb1.mono (by simp; omega))
  have hz : W.heap.size + 2 ≤ w1.heap.size := by have := hb1.size; simp at this; omega
  clear hb1
  have hbA := below1 w1 (.cells #[.int .i64 f, .string (bs (jn ws))] 42)
  have a0 := keep1 hbA (by omega) c0
  have a1 := keep1 hbA (by omega) c1
  have g1 := (hbA.frozen (p := ⟨W.heap.size + 1, 0, none⟩) (by simp; omega)).trans f1
  have hbB : Below W.heap.size W (w1.alloc (.cells #[.int .i64 f, .string (bs (jn ws))] 42)) := balloc hbW _
  have n0 : (w1.alloc (.cells #[.int .i64 f, .string (bs (jn ws))] 42)).cell? ⟨w1.heap.size, 0, none⟩ = some (.int .i64 f) := by simp
  have n1 : (w1.alloc (.cells #[.int .i64 f, .string (bs (jn ws))] 42)).cell? ⟨w1.heap.size, 1, none⟩ = some (.string (bs (jn ws))) := by simp
  have hz2 : W.heap.size + 2 ≤ (w1.alloc (.cells #[.int .i64 f, .string (bs (jn ws))] 42)).heap.size := by simp; omega
  obtain ⟨B, hB⟩ : ∃ B, w1.heap.size = B := ⟨_, rfl⟩
  rw [hB] at n0 n1 ⊢
  generalize w1.alloc (.cells #[.int .i64 f, .string (bs (jn ws))] 42) = w2 at a0 a1 g1 hbB n0 n1 hz2 ⊢
  clear hbA c0 c1 f1 hbW hz hB
  refine wpIn_rangeFunc_ownF rfl (by omega) (gf := 35) (lb := #[.pointer (some ⟨B, 0, none⟩)]) rfl trivial (enters_of Tryd.func35 (by kernel_rfl) rfl)
    (stops 4 (by omega) B f ws hws hl hf0 hf1 w2 n0 n1) (fun _ _ => trivial) (fun _ _ _ _ _ _ _ _ => trivial) (Below.refl _ _) (fun _ => rfl)
    (fun pre V => ((∀ y ∈ pre, y.1 ≠ op) ∧ V.cell? ⟨W.heap.size, 0, none⟩ = some (.int .i64 op) ∧ V.cell? ⟨W.heap.size + 1, 0, none⟩ = some (.string (bs [])) ∧ V.frozen? ⟨W.heap.size + 1, 0, none⟩ = false) ∧ Below W.heap.size W V)
    (fun c pre V => (c = .ret ∧ (∃ p x, pre = p ++ [x] ∧ (∀ y ∈ p, y.1 ≠ op) ∧ x.1 = op ∧ V.cell? ⟨W.heap.size + 1, 0, none⟩ = some (.string (bs x.2)))) ∧ Below W.heap.size W V)
    (OwnFrom.and (Own.from (fun s A B row hs hg hr => ⟨hs.1, cell_kept hs.2.1 hg hr, cell_kept hs.2.2.1 hg hr, (frozen_kept hs.2.2.1 hg hr).trans hs.2.2.2⟩) _) (ownFrom_below (Nat.le_refl _) (by omega)))
    (fun c => OwnFrom.and (Own.from (fun s A B row hs hg hr => ⟨hs.1, let ⟨p, x, h1, h2, h3, h4⟩ := hs.2; ⟨p, x, h1, h2, h3, cell_kept h4 hg hr⟩⟩) _) (ownFrom_below (Nat.le_refl _) (by omega)))
    ⟨⟨by simp, a0, a1, g1⟩, hbB⟩
    (fun x => { tmps := #[.int .i64 op, .pointer (some ⟨W.heap.size, 0, none⟩), .pointer (some ⟨W.heap.size + 1, 0, none⟩), .int .i64 x.1, .string (bs x.2), .int .i64 op, .agg #[.int .i64 f, .string (bs (jn ws))], .func (.func 35) #[] #[.pointer (some ⟨B, 0, none⟩)], .int .i64 x.1, .string (bs x.2), undef, undef, undef, undef], defers := [] }) ?assign ?body ?done ?stop
  case assign =>
    intro l x V K hK
    gi_wp2
    exact hK
  case body =>
    rintro l pre x V ⟨⟨hp, hco, hcr, hfr⟩, hB⟩ _
    by_cases hx : x.1 = op
    · have hx' : (x.1 == op) = true := by simp [hx]
      gi_wp2
      exact ⟨KeepsOthers.setCell _ _ _, ⟨rfl, pre, x, rfl, hp, hx, World.cell?_setCell_same _ _ _ hcr⟩, hB.setCell (p := ⟨W.heap.size + 1, 0, none⟩) (by simp) _⟩
    · have hx' : (x.1 == op) = false := by simp [hx]
      gi_wp2
      exact ⟨KeepsOthers.refl _, trivial, ⟨fun y hy => (List.mem_append.1 hy).elim (hp y) (fun e => by simp at e; subst e; exact hx), hco, hcr, hfr⟩, hB⟩
  case done =>
    rintro D ys V hD rfl ⟨⟨hne, _, hcr, hfr⟩, hB⟩ hK
    gi_wp2
    have hK' := (KeepsOthers.setCell V ⟨W.heap.size + 1, 0, none⟩ (.string ⟨#[]⟩)).same D _ hK rfl
    refine ⟨by simp, .inl ⟨_, _, rfl, run_takeDeferred hK', ?_⟩⟩
    have hc5 := cell_kept (World.cell?_setCell_same V ⟨W.heap.size + 1, 0, none⟩ (.string ⟨#[]⟩) hcr) (grownBy_putObj' _ D (.deferred none)) (fun r e => by cases e; exact ⟨_, hK', rfl⟩)
    refine ⟨.string ⟨#[]⟩, ?_, by rw [nm_none hne]; rfl, (hB.setCell (p := ⟨W.heap.size + 1, 0, none⟩) (by simp) _).trans (belowK_b (w := W) (Nat.le_refl _) _ D _ _ (by omega) hK' rfl rfl)⟩
    simp [results, Tryd.f8, go_sem, hc5]
  case stop =>
    rintro D c pre V hD ⟨r, hr⟩ ⟨⟨rfl, p, x, rfl, hp, hx, hcr⟩, hB⟩ hK
    gi_wp2
    refine ⟨by simp, .inl ⟨_, _, rfl, run_takeDeferred hK, ?_⟩⟩
    have hc5 := cell_kept hcr (grownBy_putObj' _ D (.deferred none)) (fun r e => by cases e; exact ⟨_, hK, rfl⟩)
    refine ⟨.string (bs x.2), ?_, by rw [← hr, nm_hit hp hx], hB.trans (belowK_b (w := W) (Nat.le_refl _) V D _ _ (by omega) hK rfl rfl)⟩
    simp [results, Tryd.f8, go_sem, hc5]

end Go.Proofs.YtkpdanjfdcoldaaDoor
