/- opcode.runOf. -/
import Derived.Test.YtkpdanjfdcoldaaDoorOpD
namespace Go.Proofs.YtkpdanjfdcoldaaDoor
open Go.RowKit

theorem ix_any (s : Nat → ByteArray) (k : Nat) (hk : k < 18) : ∀ w, (Instr.index 63 (.agg (runsL s).toArray) (.int .i64 (k : Int))).run Tryd.prog w = .ok (.agg #[.int .i64 (fs k), .string (s k)]) w := by
  match k, hk with
  | 0, _ => exact fun _ => by kernel_rfl
  | 1, _ => exact fun _ => by kernel_rfl
  | 2, _ => exact fun _ => by kernel_rfl
  | 3, _ => exact fun _ => by kernel_rfl
  | 4, _ => exact fun _ => by kernel_rfl
  | 5, _ => exact fun _ => by kernel_rfl
  | 6, _ => exact fun _ => by kernel_rfl
  | 7, _ => exact fun _ => by kernel_rfl
  | 8, _ => exact fun _ => by kernel_rfl
  | 9, _ => exact fun _ => by kernel_rfl
  | 10, _ => exact fun _ => by kernel_rfl
  | 11, _ => exact fun _ => by kernel_rfl
  | 12, _ => exact fun _ => by kernel_rfl
  | 13, _ => exact fun _ => by kernel_rfl
  | 14, _ => exact fun _ => by kernel_rfl
  | 15, _ => exact fun _ => by kernel_rfl
  | 16, _ => exact fun _ => by kernel_rfl
  | 17, _ => exact fun _ => by kernel_rfl
  | _ + 18, h => exact absurd h (by omega)
/-- The last run that doesn't begin behind op. -/
def lr (s : Nat → ByteArray) (op : Int) : Nat → Int × ByteArray
  | 0 => (0, bs [])
  | k + 1 => if fs k ≤ op then (fs k, s k) else lr s op k
/-- A block of two cells that can be written. -/
def Tw (b : Nat) (x y : Value) (w : World) : Prop := w.cell? ⟨b, 0, none⟩ = some x ∧ w.cell? ⟨b, 1, none⟩ = some y ∧ w.frozen? ⟨b, 0, none⟩ = false ∧ w.frozen? ⟨b, 1, none⟩ = false
theorem Tw.lt {b : Nat} {x y : Value} {w : World} (h : Tw b x y w) : b < w.heap.size := lt_of_cell h.1
theorem Tw.below {b : Nat} {x y : Value} {w w' : World} (h : Tw b x y w) (hb : Below w.heap.size w w') : Tw b x y w' :=
  have hz := h.lt
  ⟨keep1 hb hz h.1, keep1 hb hz h.2.1, (hb.frozen (p := ⟨b, 0, none⟩) hz).trans h.2.2.1, (hb.frozen (p := ⟨b, 1, none⟩) hz).trans h.2.2.2⟩
theorem Tw.set2 {b : Nat} {x y : Value} {w : World} (h : Tw b x y w) (x' y' : Value) : Tw b x' y' ((w.setCell ⟨b, 0, none⟩ x').setCell ⟨b, 1, none⟩ y') := by
  obtain ⟨c0, c1, f0, f1⟩ := h
  have e : (w.setCell ⟨b, 0, none⟩ x').cell? ⟨b, 1, none⟩ = some y := by rw [World.cell?_setCell_other _ _ _ _ (by simp)]; exact c1
  exact ⟨by rw [World.cell?_setCell_other _ _ _ _ (by simp)]; exact World.cell?_setCell_same _ _ _ c0, World.cell?_setCell_same _ _ _ e, by simp [f0], by simp [f1]⟩
theorem Tw.set_other {b : Nat} {x y : Value} {w : World} (h : Tw b x y w) (b' o o' : Nat) (x' y' : Value) (hn : b ≠ b') : Tw b x y ((w.setCell ⟨b', o, none⟩ x').setCell ⟨b', o', none⟩ y') := by
  obtain ⟨c0, c1, f0, f1⟩ := h
  exact ⟨keep_set _ _ _ hn (keep_set _ _ _ hn c0), keep_set _ _ _ hn (keep_set _ _ _ hn c1), by simp [f0], by simp [f1]⟩
def idx18 : Value → Nat
  | .int _ i => 18 - i.toNat
  | _ => 0
set_option maxHeartbeats 4000000 in
set_option maxRecDepth 100000 in
theorem runOf_s (s : Nat → ByteArray) (RV : Value) (HX : Hid (∀ k : Nat, k < 18 → ∀ w, (Instr.index 63 RV (.int .i64 (k : Int))).run Tryd.prog w = .ok (.agg #[.int .i64 (fs k), .string (s k)]) w))
    (HR : Hid (∀ W, Calls Tryd.prog 34 #[] W fun e W' => e = .returned RV ∧ Below W.heap.size W W')) (op : Int) (W : World) :
    Calls Tryd.prog 17 #[.int .i64 op] W fun e W' => e = .returned (.agg #[.int .i64 (lr s op 18).1, .string (lr s op 18).2]) ∧ Below W.heap.size W W' := by
  go_enter Tryd.func17, Tryd.ntmps17
  go_wp2_with (go_at_call 34; refine ((unhide HR) _).mono ?_; rintro e w1 ⟨rfl, hb1⟩)
  have hbW : Below W.heap.size W w1 := (below2 W _ _).trans (hb1.mono (by simp; omega))
  have h2 : Tw W.heap.size (.int .i64 0) (.string (bs [])) w1 := Tw.below ⟨by simp, by simp [bs], by simp, by simp⟩ hb1
  have h3 : Tw (W.heap.size + 1) (.int .i64 (lr s op 0).1) (.string (lr s op 0).2) w1 := Tw.below ⟨by simp [lr], by simp [lr, bs], by simp, by simp⟩ hb1
  have hz : W.heap.size + 2 ≤ w1.heap.size := by have := hb1.size; simp at this; omega
  clear hb1
  go_loopw [7] (fun i wr => ∃ k : Nat, i = .int .i64 (k : Int) ∧ k ≤ 18 ∧ Tw W.heap.size (.int .i64 0) (.string (bs [])) wr ∧ Tw (W.heap.size + 1) (.int .i64 (lr s op k).1) (.string (lr s op k).2) wr ∧ Below W.heap.size W wr ∧ W.heap.size + 2 ≤ wr.heap.size) (fun i _ => idx18 i)
  case atStart => exact ⟨0, rfl, by omega, h2, h3, hbW, hz⟩
  case round =>
    clear h2 h3 hbW hz
    obtain ⟨k, rfl, hk, h2, h3, hb, hz⟩ := hrel
    by_cases hk8 : k < 18
    · have hi : (k : Int) < 18 := by omega
      have hix := (unhide HX) k hk8
      have hw : IntKind.i64.wrap ((k : Int) + 1) = ((k + 1 : Nat) : Int) := by rw [i64_id (by omega) (by omega)]; simp
      by_cases hc : fs k ≤ op
      · have hl : lr s op (k + 1) = (fs k, s k) := by simp [lr, hc]
        have h2' := h2.below (below1 wr (.cells #[.int .i64 (fs k), .string (s k)] 42))
        have hb' := balloc hb (.cells #[.int .i64 (fs k), .string (s k)] 42)
        have h3' := h3.below (below1 wr (.cells #[.int .i64 (fs k), .string (s k)] 42))
        obtain ⟨c0, c1, f0, f1⟩ := h3'
        go_wp2
        go_roundw
        case rel => exact ⟨k + 1, by simp, by omega, h2'.set_other (W.heap.size + 1) 0 1 _ _ (by omega), by rw [hl]; exact Tw.set2 ⟨c0, c1, f0, f1⟩ _ _, (hb'.setCell (p := ⟨W.heap.size + 1, 0, none⟩) (by simp) _).setCell (p := ⟨W.heap.size + 1, 1, none⟩) (by simp) _, by simp; omega⟩
        case measure => simp [idx18]; omega
      · have hl : lr s op (k + 1) = lr s op k := by simp [lr, hc]
        go_wp2
        go_roundw
        case rel => exact ⟨k + 1, by simp, by omega, h2.below (below1 _ _), by rw [hl]; exact h3.below (below1 _ _), balloc hb _, by simp; omega⟩
        case measure => simp [idx18]; omega
    · obtain rfl : k = 18 := by omega
      have hi : ¬ (((18 : Nat) : Int) < 18) := by omega
      obtain ⟨c0, c1, f0, f1⟩ := h3
      obtain ⟨d0, d1, g0, g1⟩ := h2
      go_wp2
      have hb' := (hb.setCell (p := ⟨W.heap.size, 0, none⟩) (by simp) (.int .i64 (lr s op 18).1)).setCell (p := ⟨W.heap.size, 1, none⟩) (by simp) (.string (lr s op 18).2)
      obtain ⟨e0, e1, -, -⟩ := Tw.set2 ⟨d0, d1, g0, g1⟩ (.int .i64 (lr s op 18).1) (.string (lr s op 18).2)
      generalize (wr.setCell ⟨W.heap.size, 0, none⟩ (.int .i64 (lr s op 18).1)).setCell ⟨W.heap.size, 1, none⟩ (.string (lr s op 18).2) = wz at hb' e0 e1 ⊢
      exact bodyPost_ret (v := .agg #[.int .i64 (lr s op 18).1, .string (lr s op 18).2]) (by simp [results, Tryd.results17, go_sem, e0, e1]) rfl ⟨rfl, hb'⟩
theorem runOf_any (op : Int) (W : World) : Calls Tryd.prog 17 #[.int .i64 op] W fun e W' => e = .returned (.agg #[.int .i64 (lr tx op 18).1, .string (lr tx op 18).2]) ∧ Below W.heap.size W W' :=
  runOf_s tx _ (hide (ix_any tx)) (hide (runs_s tx runsF_fn)) op W

end Go.Proofs.YtkpdanjfdcoldaaDoor
