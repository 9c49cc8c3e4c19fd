/- typeOf, moved, Access of what is none. -/
import Derived.Test.YtkpdanjfdcoldaaDoorOpL
namespace Go.Proofs.YtkpdanjfdcoldaaDoor
open Go.RowKit

/-- The variable of the library holds some number. -/
def Ml (W : World) : Prop := ∃ m, W.cell? ⟨3, 0, none⟩ = some (.int .i64 m)
theorem Ml.below {w w' : World} (h : Ml w) (hb : Below w.heap.size w w') : Ml w' := let ⟨m, hm⟩ := h; ⟨m, keep1 hb (lt_of_cell hm) hm⟩
/-- What a function answers then. -/
def Cl (f : Nat) (args : Array Value) (res : Value) : Prop := Hid (∀ W, Ml W → Calls Tryd.prog f args W fun r W' => r = .returned res ∧ Below W.heap.size W W')
set_option maxHeartbeats 4000000 in
set_option maxRecDepth 100000 in
theorem typeOf_i32 : Ct 23 #[.string (bs [105, 51, 50])] (.tuple #[.int .u8 127, .int .i64 4]) := hide fun W => by
  have e_i32 : ((bs [105, 51, 50]).toList == [105, 51, 50]) = true := by simp [bs, Lib.toList_data]
  go_enter Tryd.func23, Tryd.ntmps23
  go_wp2_with fail
  go_ret2
  exact ⟨rfl, Below.refl _ _⟩
set_option maxHeartbeats 4000000 in
set_option maxRecDepth 100000 in
theorem typeOf_f32 : Ct 23 #[.string (bs [102, 51, 50])] (.tuple #[.int .u8 125, .int .i64 4]) := hide fun W => by
  have e_i32 : ((bs [102, 51, 50]).toList == [105, 51, 50]) = false := by simp [bs, Lib.toList_data]
  have e_i64 : ((bs [102, 51, 50]).toList == [105, 54, 52]) = false := by simp [bs, Lib.toList_data]
  have e_f32 : ((bs [102, 51, 50]).toList == [102, 51, 50]) = true := by simp [bs, Lib.toList_data]
  go_enter Tryd.func23, Tryd.ntmps23
  go_wp2_with fail
  go_ret2
  exact ⟨rfl, Below.refl _ _⟩
set_option maxHeartbeats 4000000 in
set_option maxRecDepth 100000 in
theorem typeOf_f64 : Ct 23 #[.string (bs [102, 54, 52])] (.tuple #[.int .u8 124, .int .i64 8]) := hide fun W => by
  have e_i32 : ((bs [102, 54, 52]).toList == [105, 51, 50]) = false := by simp [bs, Lib.toList_data]
  have e_i64 : ((bs [102, 54, 52]).toList == [105, 54, 52]) = false := by simp [bs, Lib.toList_data]
  have e_f32 : ((bs [102, 54, 52]).toList == [102, 51, 50]) = false := by simp [bs, Lib.toList_data]
  go_enter Tryd.func23, Tryd.ntmps23
  go_wp2_with fail
  go_ret2
  exact ⟨rfl, Below.refl _ _⟩
set_option maxHeartbeats 4000000 in
set_option maxRecDepth 100000 in
theorem moved_16 (d : List UInt8) (n : Int) (h8 : ¬ 0 ≤ Lib.indexByte d 56) (hl : (bs d).size < 4294967281) (h0 : Lib.contains d [49, 54] = true) : Cl 24 #[.string (bs d), .int .i64 n] (.int .i64 2) := hide fun W hW => by
  have h8' : ¬ 0 ≤ Lib.indexByte (bs d).data.toList 56 := by simpa [bs] using h8
  have H8 := hide (fun W => cont_one (bs d) 56 W)
  have e8 : decide (0 ≤ Lib.indexByte (bs d).data.toList 56) = false := by simp only [h8', decide_false]
  have e0 : Lib.contains (bs d).data.toList [49, 54] = true := by simpa [bs] using h0
  have H0 := hide (fun W (hW : Ml W) => let ⟨mm, hmm⟩ := hW; cont_any (bs d) ⟨#[49, 54]⟩ mm W hl hmm)
  have HW := hide hW
  clear hW h8 h8' h0
  go_enter Tryd.func24, Tryd.ntmps24
  go_wp2_with fail
  refine ((unhide H8) _).mono ?_
  rintro _ w1 ⟨rfl, rfl⟩
  rw [e8]
  go_wp2_with fail
  refine ((unhide H0) _ (unhide HW)).mono ?_
  rintro _ w2 ⟨rfl, rfl⟩
  rw [e0]
  go_wp2_with fail
  go_ret
  exact ⟨rfl, Below.refl _ _⟩
set_option maxHeartbeats 4000000 in
set_option maxRecDepth 100000 in
theorem moved_32 (d : List UInt8) (n : Int) (h8 : ¬ 0 ≤ Lib.indexByte d 56) (hl : (bs d).size < 4294967281) (h0 : Lib.contains d [49, 54] = false) (h1 : Lib.contains d [51, 50] = true) : Cl 24 #[.string (bs d), .int .i64 n] (.int .i64 4) := hide fun W hW => by
  have h8' : ¬ 0 ≤ Lib.indexByte (bs d).data.toList 56 := by simpa [bs] using h8
  have H8 := hide (fun W => cont_one (bs d) 56 W)
  have e8 : decide (0 ≤ Lib.indexByte (bs d).data.toList 56) = false := by simp only [h8', decide_false]
  have e0 : Lib.contains (bs d).data.toList [49, 54] = false := by simpa [bs] using h0
  have H0 := hide (fun W (hW : Ml W) => let ⟨mm, hmm⟩ := hW; cont_any (bs d) ⟨#[49, 54]⟩ mm W hl hmm)
  have e1 : Lib.contains (bs d).data.toList [51, 50] = true := by simpa [bs] using h1
  have H1 := hide (fun W (hW : Ml W) => let ⟨mm, hmm⟩ := hW; cont_any (bs d) ⟨#[51, 50]⟩ mm W hl hmm)
  have HW := hide hW
  clear hW h8 h8' h0 h1
  go_enter Tryd.func24, Tryd.ntmps24
  go_wp2_with fail
  refine ((unhide H8) _).mono ?_
  rintro _ w1 ⟨rfl, rfl⟩
  rw [e8]
  go_wp2_with fail
  refine ((unhide H0) _ (unhide HW)).mono ?_
  rintro _ w2 ⟨rfl, rfl⟩
  rw [e0]
  go_wp2_with fail
  refine ((unhide H1) _ (unhide HW)).mono ?_
  rintro _ w2 ⟨rfl, rfl⟩
  rw [e1]
  go_wp2_with fail
  go_ret
  exact ⟨rfl, Below.refl _ _⟩
set_option maxHeartbeats 4000000 in
set_option maxRecDepth 100000 in
theorem moved_all (d : List UInt8) (n : Int) (h8 : ¬ 0 ≤ Lib.indexByte d 56) (hl : (bs d).size < 4294967281) (h0 : Lib.contains d [49, 54] = false) (h1 : Lib.contains d [51, 50] = false) : Cl 24 #[.string (bs d), .int .i64 n] (.int .i64 n) := hide fun W hW => by
  have h8' : ¬ 0 ≤ Lib.indexByte (bs d).data.toList 56 := by simpa [bs] using h8
  have H8 := hide (fun W => cont_one (bs d) 56 W)
  have e8 : decide (0 ≤ Lib.indexByte (bs d).data.toList 56) = false := by simp only [h8', decide_false]
  have e0 : Lib.contains (bs d).data.toList [49, 54] = false := by simpa [bs] using h0
  have H0 := hide (fun W (hW : Ml W) => let ⟨mm, hmm⟩ := hW; cont_any (bs d) ⟨#[49, 54]⟩ mm W hl hmm)
  have e1 : Lib.contains (bs d).data.toList [51, 50] = false := by simpa [bs] using h1
  have H1 := hide (fun W (hW : Ml W) => let ⟨mm, hmm⟩ := hW; cont_any (bs d) ⟨#[51, 50]⟩ mm W hl hmm)
  have HW := hide hW
  clear hW h8 h8' h0 h1
  go_enter Tryd.func24, Tryd.ntmps24
  go_wp2_with fail
  refine ((unhide H8) _).mono ?_
  rintro _ w1 ⟨rfl, rfl⟩
  rw [e8]
  go_wp2_with fail
  refine ((unhide H0) _ (unhide HW)).mono ?_
  rintro _ w2 ⟨rfl, rfl⟩
  rw [e0]
  go_wp2_with fail
  refine ((unhide H1) _ (unhide HW)).mono ?_
  rintro _ w2 ⟨rfl, rfl⟩
  rw [e1]
  go_wp2_with fail
  go_ret
  exact ⟨rfl, Below.refl _ _⟩
set_option maxHeartbeats 4000000 in
set_option maxRecDepth 100000 in
theorem access_no (op : Int) (h : op < 40 ∨ 62 < op) : Ct 10 #[.int .i64 op] (.tuple #[.agg #[.int .u8 0, .int .i64 0, .bool false, .bool false], .bool false]) := hide fun W => by
  have HI := isacc op false (h.elim (fun h => .inr (.inl ⟨h, rfl⟩)) (fun h => .inr (.inr ⟨by omega, by omega, rfl⟩)))
  clear h
  go_enter Tryd.func10, Tryd.ntmps10
  go_wp2_with fail
  refine ((unhide HI) _).mono ?_
  rintro _ w2 ⟨rfl, hb2⟩
  have c0 : w2.cell? ⟨W.heap.size, 0, none⟩ = some (.int .u8 0) := keep1 hb2 (by simp) (by simp [go_sem])
  have c1 : w2.cell? ⟨W.heap.size, 1, none⟩ = some (.int .i64 0) := keep1 hb2 (by simp) (by simp [go_sem])
  have c2 : w2.cell? ⟨W.heap.size, 2, none⟩ = some (.bool false) := keep1 hb2 (by simp) (by simp [go_sem])
  have c3 : w2.cell? ⟨W.heap.size, 3, none⟩ = some (.bool false) := keep1 hb2 (by simp) (by simp [go_sem])
  have f0 : w2.frozen? ⟨W.heap.size, 0, none⟩ = false := (hb2.frozen (p := ⟨W.heap.size, 0, none⟩) (by simp)).trans (by simp [go_sem])
  have f1 : w2.frozen? ⟨W.heap.size, 1, none⟩ = false := (hb2.frozen (p := ⟨W.heap.size, 1, none⟩) (by simp)).trans (by simp [go_sem])
  have f2 : w2.frozen? ⟨W.heap.size, 2, none⟩ = false := (hb2.frozen (p := ⟨W.heap.size, 2, none⟩) (by simp)).trans (by simp [go_sem])
  have f3 : w2.frozen? ⟨W.heap.size, 3, none⟩ = false := (hb2.frozen (p := ⟨W.heap.size, 3, none⟩) (by simp)).trans (by simp [go_sem])
  have hq : Hid (Qd W.heap.size (.int .u8 0) (.int .i64 0) (.bool false) (.bool false) w2) := ⟨⟨c0, c1, c2, c3⟩, f0, f1, f2, f3⟩
  have hbW := bthen (below1 W _) hb2
  clear hb2
  go_wp2_with fail
  obtain ⟨k0, k1, k2, k3⟩ := Qd.set4 (unhide hq) (.int .u8 0) (.int .i64 0) (.bool false) (.bool false)
  have hbZ := (((hbW.setCell (p := ⟨W.heap.size, 0, none⟩) (by simp) (.int .u8 0)).setCell (p := ⟨W.heap.size, 1, none⟩) (by simp) (.int .i64 0)).setCell (p := ⟨W.heap.size, 2, none⟩) (by simp) (.bool false)).setCell (p := ⟨W.heap.size, 3, none⟩) (by simp) (.bool false)
  generalize (((w2.setCell ⟨W.heap.size, 0, none⟩ (.int .u8 0)).setCell ⟨W.heap.size, 1, none⟩ (.int .i64 0)).setCell ⟨W.heap.size, 2, none⟩ (.bool false)).setCell ⟨W.heap.size, 3, none⟩ (.bool false) = wz at k0 k1 k2 k3 hbZ ⊢
  exact bodyPost_ret (v := .tuple #[.agg #[.int .u8 0, .int .i64 0, .bool false, .bool false], .bool false]) (by simp [results, Tryd.results10, go_sem, k0, k1, k2, k3]) rfl ⟨rfl, hbZ⟩

end Go.Proofs.YtkpdanjfdcoldaaDoor
