/- Access. -/
import Derived.Test.YtkpdanjfdcoldaaDoorOpK
namespace Go.Proofs.YtkpdanjfdcoldaaDoor
open Go.RowKit

theorem drewN_below (w : World) (n : Nat) : Below w.heap.size w (w.drewN n) := (Below.refl _ w).grown (grown_drewN w n) (Nat.le_refl _) (fun k e => by cases e)
/-- A block of four cells that can be written. -/
def Qd (b : Nat) (x y z u : Value) (w : World) : Prop := (w.cell? ⟨b, 0, none⟩ = some x ∧ w.cell? ⟨b, 1, none⟩ = some y ∧ w.cell? ⟨b, 2, none⟩ = some z ∧ w.cell? ⟨b, 3, none⟩ = some u) ∧ w.frozen? ⟨b, 0, none⟩ = false ∧ w.frozen? ⟨b, 1, none⟩ = false ∧ w.frozen? ⟨b, 2, none⟩ = false ∧ w.frozen? ⟨b, 3, none⟩ = false
theorem Qd.below {b : Nat} {x y z u : Value} {w w' : World} (h : Qd b x y z u w) (hb : Below w.heap.size w w') : Qd b x y z u w' := by
  obtain ⟨⟨c0, c1, c2, c3⟩, f0, f1, f2, f3⟩ := h
  have hz := lt_of_cell c0
  exact ⟨⟨keep1 hb hz c0, keep1 hb hz c1, keep1 hb hz c2, keep1 hb hz c3⟩, (hb.frozen (p := ⟨b, 0, none⟩) hz).trans f0, (hb.frozen (p := ⟨b, 1, none⟩) hz).trans f1, (hb.frozen (p := ⟨b, 2, none⟩) hz).trans f2, (hb.frozen (p := ⟨b, 3, none⟩) hz).trans f3⟩
theorem Qd.set4 {b : Nat} {x y z u : Value} {w : World} (h : Qd b x y z u w) (x' y' z' u' : Value) :
    ((((w.setCell ⟨b, 0, none⟩ x').setCell ⟨b, 1, none⟩ y').setCell ⟨b, 2, none⟩ z').setCell ⟨b, 3, none⟩ u').cell? ⟨b, 0, none⟩ = some x' ∧ ((((w.setCell ⟨b, 0, none⟩ x').setCell ⟨b, 1, none⟩ y').setCell ⟨b, 2, none⟩ z').setCell ⟨b, 3, none⟩ u').cell? ⟨b, 1, none⟩ = some y' ∧
    ((((w.setCell ⟨b, 0, none⟩ x').setCell ⟨b, 1, none⟩ y').setCell ⟨b, 2, none⟩ z').setCell ⟨b, 3, none⟩ u').cell? ⟨b, 2, none⟩ = some z' ∧ ((((w.setCell ⟨b, 0, none⟩ x').setCell ⟨b, 1, none⟩ y').setCell ⟨b, 2, none⟩ z').setCell ⟨b, 3, none⟩ u').cell? ⟨b, 3, none⟩ = some u' := by
  obtain ⟨⟨c0, c1, c2, c3⟩, -⟩ := h
  refine ⟨?_, ?_, ?_, ?_⟩
  · rw [World.cell?_setCell_other _ _ _ _ (by simp), World.cell?_setCell_other _ _ _ _ (by simp), World.cell?_setCell_other _ _ _ _ (by simp)]
    exact World.cell?_setCell_same _ _ _ c0
  · rw [World.cell?_setCell_other _ _ _ _ (by simp), World.cell?_setCell_other _ _ _ _ (by simp)]
    exact World.cell?_setCell_same _ _ _ (by rw [World.cell?_setCell_other _ _ _ _ (by simp)]; exact c1)
  · rw [World.cell?_setCell_other _ _ _ _ (by simp)]
    exact World.cell?_setCell_same _ _ _ (by rw [World.cell?_setCell_other _ _ _ _ (by simp), World.cell?_setCell_other _ _ _ _ (by simp)]; exact c2)
  · exact World.cell?_setCell_same _ _ _ (by rw [World.cell?_setCell_other _ _ _ _ (by simp), World.cell?_setCell_other _ _ _ _ (by simp), World.cell?_setCell_other _ _ _ _ (by simp)]; exact c3)
set_option maxHeartbeats 8000000 in
set_option maxRecDepth 100000 in
theorem access_s (M : World → Prop) (hM : ∀ w w', M w → Below w.heap.size w w' → M w') (op : Int) (s o d : List UInt8) (HI : Ct 21 #[.int .i64 op] (.bool true)) (HN : Ct 8 #[.int .i64 op] (.string (bs s))) (hs : s = o ++ 46 :: d) (ho : (46 : UInt8) ∉ o) (hl : (bs s).size < 4294967281) (ty n m : Int)
    (HT : Ct 23 #[.string (bs o)] (.tuple #[.int .u8 ty, .int .i64 n])) (HV : Hid (∀ W, M W → Calls Tryd.prog 24 #[.string (bs d), .int .i64 n] W fun r W' => r = .returned (.int .i64 m) ∧ Below W.heap.size W W')) (W : World) (hW : M W) :
    Calls Tryd.prog 10 #[.int .i64 op] W fun r W' => r = .returned (.tuple #[.agg #[.int .u8 ty, .int .i64 m, .bool (Lib.hasSuffix d [95, 115]), .bool (Lib.hasPrefix d [115, 116, 111, 114, 101])], .bool true]) ∧ Below W.heap.size W W' := by
  have HC := hide (fun W => by have := cut_hit 46 o d ho (by rw [← hs]; exact hl) W; rwa [← hs] at this)
  have hd : (bs d).size ≤ 9223372036854775807 := by rw [hs] at hl; simp only [bs_size, List.length_append, List.length_cons] at hl ⊢; omega
  have HS := hide (fun W => suf_any (bs d) ⟨#[95, 115]⟩ W hd)
  have HP := hide (fun W => pre_any (bs d) ⟨#[115, 116, 111, 114, 101]⟩ W)
  have e1 : Lib.hasSuffix (bs d).data.toList [95, 115] = Lib.hasSuffix d [95, 115] := by simp [bs]
  have e2 : Lib.hasPrefix (bs d).data.toList [115, 116, 111, 114, 101] = Lib.hasPrefix d [115, 116, 111, 114, 101] := by simp [bs]
  generalize Lib.hasSuffix d [95, 115] = sg at e1 ⊢
  generalize Lib.hasPrefix d [115, 116, 111, 114, 101] = st at e2 ⊢
  clear hs hl hd ho
  have HW := hide hW
  have HM := hide hM
  clear hW hM
  go_enter Tryd.func10, Tryd.ntmps10
  go_wp2_with (first
    | (go_at_call 21; refine ((unhide HI) _).mono ?_; rintro _ w2 ⟨rfl, hb2⟩)
    | (go_at_call 8; refine ((unhide HN) _).mono ?_; rintro _ w3 ⟨rfl, hb3⟩)
    | (go_at_call 22; refine ((unhide HC) _).mono ?_; rintro _ w4 ⟨rfl, n4, rfl⟩)
    | (go_at_call 23; refine ((unhide HT) _).mono ?_; rintro _ w5 ⟨rfl, hb5⟩)
    | fail)
  have hbV : Below (W.alloc (.cells #[.int .u8 0, .int .i64 0, .bool false, .bool false] 28)).heap.size (W.alloc (.cells #[.int .u8 0, .int .i64 0, .bool false, .bool false] 28)) w5 := bthen (bthen (bthen hb2 hb3) (drewN_below w3 n4)) hb5
  clear hb2 hb3 hb5
  have hM5 := (unhide HM) _ _ ((unhide HM) _ _ (unhide HW) (below1 W _)) hbV
  refine ((unhide HV) _ hM5).mono ?_
  rintro _ w6 ⟨rfl, hb6⟩
  have hq : Qd W.heap.size (.int .u8 0) (.int .i64 0) (.bool false) (.bool false) w6 := by
    refine Qd.below (Qd.below ?_ hbV) hb6
    unfold Qd
    refine ⟨⟨?_, ?_, ?_, ?_⟩, ?_, ?_, ?_, ?_⟩
    all_goals simp [go_sem]
  have hbW : Below W.heap.size W w6 := bthen (bthen (below1 W _) hbV) hb6
  clear hbV hb6 hM5 HM HW HV HI HN HC HT
  have hq' := hide hq
  obtain ⟨⟨c0, c1, c2, c3⟩, f0, f1, f2, f3⟩ := hq
  go_wp2_with (first
    | (go_at_call 25; refine ((unhide HS) _).mono ?_; rintro _ w7 ⟨rfl, rfl⟩; rw [e1])
    | (go_at_call 26; refine ((unhide HP) _).mono ?_; rintro _ w8 ⟨rfl, rfl⟩; rw [e2])
    | fail)
  obtain ⟨k0, k1, k2, k3⟩ := Qd.set4 (unhide hq') (.int .u8 ty) (.int .i64 m) (.bool sg) (.bool st)
  have hbZ := (((hbW.setCell (p := ⟨W.heap.size, 0, none⟩) (by simp) (.int .u8 ty)).setCell (p := ⟨W.heap.size, 1, none⟩) (by simp) (.int .i64 m)).setCell (p := ⟨W.heap.size, 2, none⟩) (by simp) (.bool sg)).setCell (p := ⟨W.heap.size, 3, none⟩) (by simp) (.bool st)
  generalize (((w8.setCell ⟨W.heap.size, 0, none⟩ (.int .u8 ty)).setCell ⟨W.heap.size, 1, none⟩ (.int .i64 m)).setCell ⟨W.heap.size, 2, none⟩ (.bool sg)).setCell ⟨W.heap.size, 3, none⟩ (.bool st) = wz at k0 k1 k2 k3 hbZ ⊢
  exact bodyPost_ret (v := .tuple #[.agg #[.int .u8 ty, .int .i64 m, .bool sg, .bool st], .bool true]) (by simp [results, Tryd.results10, go_sem, k0, k1, k2, k3]) rfl ⟨rfl, hbZ⟩

end Go.Proofs.YtkpdanjfdcoldaaDoor
