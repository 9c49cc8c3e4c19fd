/- RefOpen, Order. -/
import Derived.Test.YticbhdgamblmbaaG16
import Derived.Test.YticbhdgamblmbaaG30
namespace Go.Proofs.Yticbhdgamblmbaa
open Go.RowKit

set_option maxRecDepth 100000 in
set_option maxHeartbeats 2000000 in
theorem refOpen_nan {w e f P Q b x xx yy : Int} {n : Bool} (W : World)
    (HX : Hid (∀ W, Calls Try.prog 34 #[.int .i64 w, .int .u64 x] W fun r W' => r = .returned (.int .i64 xx) ∧ Below W.heap.size W W'))
    (HY : Hid (∀ W, Calls Try.prog 35 #[.int .i64 w, .int .u64 x] W fun r W' => r = .returned (.int .u64 yy) ∧ Below W.heap.size W W'))
    (HN : Hid (∀ W, Calls Try.prog 36 #[.int .i64 w, .int .u64 x] W fun r W' => r = .returned (.bool n) ∧ Below W.heap.size W W'))
    (h : Kd w e f P Q b) (h1 : (xx == Q - 1) = true) (h2 : (yy != 0) = true) :
    Calls Try.prog 21 #[.int .i64 w, .int .u64 x] W fun r W' => r = .returned (.agg #[.bool false, .int .i64 3, .int .i64 0, .int .u64 0]) ∧ Below W.heap.size W W' := by
  have HT := hide (fun W => refTop_any h W)
  clear h
  go_enter Try.func21, Try.ntmps21
  go_wp2_with fail
  refine (unhide HX _).mono ?_
  rintro _ w1 ⟨rfl, hbl⟩
  have HR := hide (room4 hbl)
  have HB := hide (bthen (below1 _ _) hbl)
  clear hbl
  go_wp2_with fail
  refine (unhide HY _).mono ?_
  rintro _ w2 ⟨rfl, hbl⟩
  have HR := hide ((unhide HR).below hbl)
  have HB := hide (bthen (unhide HB) hbl)
  clear hbl
  go_wp2_with fail
  refine (unhide HN _).mono ?_
  rintro _ w3 ⟨rfl, hbl⟩
  have HR := hide ((unhide HR).below hbl)
  have HB := hide (bthen (unhide HB) hbl)
  clear hbl
  go_wp2_with fail
  refine (unhide HT _).mono ?_
  rintro _ w4 ⟨rfl, hbl⟩
  have HR := hide ((unhide HR).below hbl)
  have HB := hide (bthen (unhide HB) hbl)
  clear hbl
  obtain ⟨⟨v0, c0⟩, f0⟩ := (unhide HR) 0 (by omega)
  obtain ⟨⟨v1, c1⟩, f1⟩ := (unhide HR) 1 (by omega)
  obtain ⟨⟨v2, c2⟩, f2⟩ := (unhide HR) 2 (by omega)
  obtain ⟨⟨v3, c3⟩, f3⟩ := (unhide HR) 3 (by omega)
  go_wp2_with fail
  exact bodyPost_ret (v := .agg #[.bool false, .int .i64 3, .int .i64 0, .int .u64 0]) (by simp (maxDischargeDepth := 8) [results, Try.results21, go_sem, c0, c1, c2, c3]) rfl ⟨rfl, bset4 (unhide HB) _ _ _ _⟩

set_option maxRecDepth 100000 in
set_option maxHeartbeats 2000000 in
theorem refOpen_inf {w e f P Q b x xx yy : Int} {n : Bool} (W : World)
    (HX : Hid (∀ W, Calls Try.prog 34 #[.int .i64 w, .int .u64 x] W fun r W' => r = .returned (.int .i64 xx) ∧ Below W.heap.size W W'))
    (HY : Hid (∀ W, Calls Try.prog 35 #[.int .i64 w, .int .u64 x] W fun r W' => r = .returned (.int .u64 yy) ∧ Below W.heap.size W W'))
    (HN : Hid (∀ W, Calls Try.prog 36 #[.int .i64 w, .int .u64 x] W fun r W' => r = .returned (.bool n) ∧ Below W.heap.size W W'))
    (h : Kd w e f P Q b) (h1 : (xx == Q - 1) = true) (h2 : (yy != 0) = false) :
    Calls Try.prog 21 #[.int .i64 w, .int .u64 x] W fun r W' => r = .returned (.agg #[.bool n, .int .i64 2, .int .i64 0, .int .u64 0]) ∧ Below W.heap.size W W' := by
  have HT := hide (fun W => refTop_any h W)
  clear h
  go_enter Try.func21, Try.ntmps21
  go_wp2_with fail
  refine (unhide HX _).mono ?_
  rintro _ w1 ⟨rfl, hbl⟩
  have HR := hide (room4 hbl)
  have HB := hide (bthen (below1 _ _) hbl)
  clear hbl
  go_wp2_with fail
  refine (unhide HY _).mono ?_
  rintro _ w2 ⟨rfl, hbl⟩
  have HR := hide ((unhide HR).below hbl)
  have HB := hide (bthen (unhide HB) hbl)
  clear hbl
  go_wp2_with fail
  refine (unhide HN _).mono ?_
  rintro _ w3 ⟨rfl, hbl⟩
  have HR := hide ((unhide HR).below hbl)
  have HB := hide (bthen (unhide HB) hbl)
  clear hbl
  go_wp2_with fail
  refine (unhide HT _).mono ?_
  rintro _ w4 ⟨rfl, hbl⟩
  have HR := hide ((unhide HR).below hbl)
  have HB := hide (bthen (unhide HB) hbl)
  clear hbl
  obtain ⟨⟨v0, c0⟩, f0⟩ := (unhide HR) 0 (by omega)
  obtain ⟨⟨v1, c1⟩, f1⟩ := (unhide HR) 1 (by omega)
  obtain ⟨⟨v2, c2⟩, f2⟩ := (unhide HR) 2 (by omega)
  obtain ⟨⟨v3, c3⟩, f3⟩ := (unhide HR) 3 (by omega)
  go_wp2_with fail
  exact bodyPost_ret (v := .agg #[.bool n, .int .i64 2, .int .i64 0, .int .u64 0]) (by simp (maxDischargeDepth := 8) [results, Try.results21, go_sem, c0, c1, c2, c3]) rfl ⟨rfl, bset4 (unhide HB) _ _ _ _⟩

set_option maxRecDepth 100000 in
set_option maxHeartbeats 2000000 in
theorem refOpen_zer {w e f P Q b x xx yy : Int} {n : Bool} (W : World)
    (HX : Hid (∀ W, Calls Try.prog 34 #[.int .i64 w, .int .u64 x] W fun r W' => r = .returned (.int .i64 xx) ∧ Below W.heap.size W W'))
    (HY : Hid (∀ W, Calls Try.prog 35 #[.int .i64 w, .int .u64 x] W fun r W' => r = .returned (.int .u64 yy) ∧ Below W.heap.size W W'))
    (HN : Hid (∀ W, Calls Try.prog 36 #[.int .i64 w, .int .u64 x] W fun r W' => r = .returned (.bool n) ∧ Below W.heap.size W W'))
    (h : Kd w e f P Q b) (h1 : (xx == Q - 1) = false) (h3 : (xx == 0) = true) (h2 : (yy == 0) = true) :
    Calls Try.prog 21 #[.int .i64 w, .int .u64 x] W fun r W' => r = .returned (.agg #[.bool n, .int .i64 0, .int .i64 0, .int .u64 0]) ∧ Below W.heap.size W W' := by
  have HT := hide (fun W => refTop_any h W)
  clear h
  go_enter Try.func21, Try.ntmps21
  go_wp2_with fail
  refine (unhide HX _).mono ?_
  rintro _ w1 ⟨rfl, hbl⟩
  have HR := hide (room4 hbl)
  have HB := hide (bthen (below1 _ _) hbl)
  clear hbl
  go_wp2_with fail
  refine (unhide HY _).mono ?_
  rintro _ w2 ⟨rfl, hbl⟩
  have HR := hide ((unhide HR).below hbl)
  have HB := hide (bthen (unhide HB) hbl)
  clear hbl
  go_wp2_with fail
  refine (unhide HN _).mono ?_
  rintro _ w3 ⟨rfl, hbl⟩
  have HR := hide ((unhide HR).below hbl)
  have HB := hide (bthen (unhide HB) hbl)
  clear hbl
  go_wp2_with fail
  refine (unhide HT _).mono ?_
  rintro _ w4 ⟨rfl, hbl⟩
  have HR := hide ((unhide HR).below hbl)
  have HB := hide (bthen (unhide HB) hbl)
  clear hbl
  obtain ⟨⟨v0, c0⟩, f0⟩ := (unhide HR) 0 (by omega)
  obtain ⟨⟨v1, c1⟩, f1⟩ := (unhide HR) 1 (by omega)
  obtain ⟨⟨v2, c2⟩, f2⟩ := (unhide HR) 2 (by omega)
  obtain ⟨⟨v3, c3⟩, f3⟩ := (unhide HR) 3 (by omega)
  go_wp2_with fail
  exact bodyPost_ret (v := .agg #[.bool n, .int .i64 0, .int .i64 0, .int .u64 0]) (by simp (maxDischargeDepth := 8) [results, Try.results21, go_sem, c0, c1, c2, c3]) rfl ⟨rfl, bset4 (unhide HB) _ _ _ _⟩

set_option maxRecDepth 100000 in
set_option maxHeartbeats 2000000 in
theorem refOpen_sub {w e f P Q b x xx yy : Int} {n : Bool} (W : World)
    (HX : Hid (∀ W, Calls Try.prog 34 #[.int .i64 w, .int .u64 x] W fun r W' => r = .returned (.int .i64 xx) ∧ Below W.heap.size W W'))
    (HY : Hid (∀ W, Calls Try.prog 35 #[.int .i64 w, .int .u64 x] W fun r W' => r = .returned (.int .u64 yy) ∧ Below W.heap.size W W'))
    (HN : Hid (∀ W, Calls Try.prog 36 #[.int .i64 w, .int .u64 x] W fun r W' => r = .returned (.bool n) ∧ Below W.heap.size W W'))
    (h : Kd w e f P Q b) (h1 : (xx == Q - 1) = false) (h3 : (xx == 0) = true) (h2 : (yy == 0) = false) (k1 : IntKind.i64.wrap (1 - b) = 1 - b) (k2 : IntKind.i64.wrap (1 - b - f) = 1 - b - f) :
    Calls Try.prog 21 #[.int .i64 w, .int .u64 x] W fun r W' => r = .returned (.agg #[.bool n, .int .i64 1, .int .i64 (1 - b - f), .int .u64 yy]) ∧ Below W.heap.size W W' := by
  have HT := hide (fun W => refTop_any h W)
  have HBb := hide (fun W => refB_any h W)
  have HF := hide (fun W => refF_any h W)
  clear h
  go_enter Try.func21, Try.ntmps21
  go_wp2_with fail
  refine (unhide HX _).mono ?_
  rintro _ w1 ⟨rfl, hbl⟩
  have HR := hide (room4 hbl)
  have HB := hide (bthen (below1 _ _) hbl)
  clear hbl
  go_wp2_with fail
  refine (unhide HY _).mono ?_
  rintro _ w2 ⟨rfl, hbl⟩
  have HR := hide ((unhide HR).below hbl)
  have HB := hide (bthen (unhide HB) hbl)
  clear hbl
  go_wp2_with fail
  refine (unhide HN _).mono ?_
  rintro _ w3 ⟨rfl, hbl⟩
  have HR := hide ((unhide HR).below hbl)
  have HB := hide (bthen (unhide HB) hbl)
  clear hbl
  go_wp2_with fail
  refine (unhide HT _).mono ?_
  rintro _ w4 ⟨rfl, hbl⟩
  have HR := hide ((unhide HR).below hbl)
  have HB := hide (bthen (unhide HB) hbl)
  clear hbl
  go_wp2_with fail
  refine (unhide HBb _).mono ?_
  rintro _ w5 ⟨rfl, hbl⟩
  have HR := hide ((unhide HR).below hbl)
  have HB := hide (bthen (unhide HB) hbl)
  clear hbl
  go_wp2_with fail
  refine (unhide HF _).mono ?_
  rintro _ w6 ⟨rfl, hbl⟩
  have HR := hide ((unhide HR).below hbl)
  have HB := hide (bthen (unhide HB) hbl)
  clear hbl
  obtain ⟨⟨v0, c0⟩, f0⟩ := (unhide HR) 0 (by omega)
  obtain ⟨⟨v1, c1⟩, f1⟩ := (unhide HR) 1 (by omega)
  obtain ⟨⟨v2, c2⟩, f2⟩ := (unhide HR) 2 (by omega)
  obtain ⟨⟨v3, c3⟩, f3⟩ := (unhide HR) 3 (by omega)
  go_wp2_with fail
  exact bodyPost_ret (v := .agg #[.bool n, .int .i64 1, .int .i64 (1 - b - f), .int .u64 yy]) (by simp (maxDischargeDepth := 8) [results, Try.results21, go_sem, c0, c1, c2, c3]) rfl ⟨rfl, bset4 (unhide HB) _ _ _ _⟩

set_option maxRecDepth 100000 in
set_option maxHeartbeats 2000000 in
theorem refOpen_nor {w e f P Q b x xx yy : Int} {n : Bool} (W : World)
    (HX : Hid (∀ W, Calls Try.prog 34 #[.int .i64 w, .int .u64 x] W fun r W' => r = .returned (.int .i64 xx) ∧ Below W.heap.size W W'))
    (HY : Hid (∀ W, Calls Try.prog 35 #[.int .i64 w, .int .u64 x] W fun r W' => r = .returned (.int .u64 yy) ∧ Below W.heap.size W W'))
    (HN : Hid (∀ W, Calls Try.prog 36 #[.int .i64 w, .int .u64 x] W fun r W' => r = .returned (.bool n) ∧ Below W.heap.size W W'))
    (h : Kd w e f P Q b) (h1 : (xx == Q - 1) = false) (h3 : (xx == 0) = false) (k1 : IntKind.i64.wrap (xx - b) = xx - b) (k2 : IntKind.i64.wrap (xx - b - f) = xx - b - f) (k3 : IntKind.u64.wrap (P + yy) = P + yy) :
    Calls Try.prog 21 #[.int .i64 w, .int .u64 x] W fun r W' => r = .returned (.agg #[.bool n, .int .i64 1, .int .i64 (xx - b - f), .int .u64 (P + yy)]) ∧ Below W.heap.size W W' := by
  have HT := hide (fun W => refTop_any h W)
  have HBb := hide (fun W => refB_any h W)
  have HF := hide (fun W => refF_any h W)
  have H2 := hide (fun W => two_f h W)
  clear h
  go_enter Try.func21, Try.ntmps21
  go_wp2_with fail
  refine (unhide HX _).mono ?_
  rintro _ w1 ⟨rfl, hbl⟩
  have HR := hide (room4 hbl)
  have HB := hide (bthen (below1 _ _) hbl)
  clear hbl
  go_wp2_with fail
  refine (unhide HY _).mono ?_
  rintro _ w2 ⟨rfl, hbl⟩
  have HR := hide ((unhide HR).below hbl)
  have HB := hide (bthen (unhide HB) hbl)
  clear hbl
  go_wp2_with fail
  refine (unhide HN _).mono ?_
  rintro _ w3 ⟨rfl, hbl⟩
  have HR := hide ((unhide HR).below hbl)
  have HB := hide (bthen (unhide HB) hbl)
  clear hbl
  go_wp2_with fail
  refine (unhide HT _).mono ?_
  rintro _ w4 ⟨rfl, hbl⟩
  have HR := hide ((unhide HR).below hbl)
  have HB := hide (bthen (unhide HB) hbl)
  clear hbl
  go_wp2_with fail
  refine (unhide HBb _).mono ?_
  rintro _ w5 ⟨rfl, hbl⟩
  have HR := hide ((unhide HR).below hbl)
  have HB := hide (bthen (unhide HB) hbl)
  clear hbl
  go_wp2_with fail
  refine (unhide HF _).mono ?_
  rintro _ w6 ⟨rfl, hbl⟩
  have HR := hide ((unhide HR).below hbl)
  have HB := hide (bthen (unhide HB) hbl)
  clear hbl
  go_wp2_with fail
  refine (unhide HF _).mono ?_
  rintro _ w7 ⟨rfl, hbl⟩
  have HR := hide ((unhide HR).below hbl)
  have HB := hide (bthen (unhide HB) hbl)
  clear hbl
  go_wp2_with fail
  refine (unhide H2 _).mono ?_
  rintro _ w8 ⟨rfl, hbl⟩
  have HR := hide ((unhide HR).below hbl)
  have HB := hide (bthen (unhide HB) hbl)
  clear hbl
  obtain ⟨⟨v0, c0⟩, f0⟩ := (unhide HR) 0 (by omega)
  obtain ⟨⟨v1, c1⟩, f1⟩ := (unhide HR) 1 (by omega)
  obtain ⟨⟨v2, c2⟩, f2⟩ := (unhide HR) 2 (by omega)
  obtain ⟨⟨v3, c3⟩, f3⟩ := (unhide HR) 3 (by omega)
  go_wp2_with fail
  exact bodyPost_ret (v := .agg #[.bool n, .int .i64 1, .int .i64 (xx - b - f), .int .u64 (P + yy)]) (by simp (maxDischargeDepth := 8) [results, Try.results21, go_sem, c0, c1, c2, c3]) rfl ⟨rfl, bset4 (unhide HB) _ _ _ _⟩

theorem refOpen_any {w e f P Q b : Int} (x : Int) {N : Bool} {K X S : Int} (h : Kd w e f P Q b) (W : World) (h0 : 0 ≤ x) (h1 : x < 18446744073709551616)
    (ho : Opened f P Q b (sg P Q x) (x / P % Q) (x % P) N K X S) :
    Calls Try.prog 21 #[.int .i64 w, .int .u64 x] W fun r W' => r = .returned (.agg #[.bool N, .int .i64 K, .int .i64 X, .int .u64 S]) ∧ Below W.heap.size W W' := by
  have HX := hide (fun W => refExp_any x h W h0 h1)
  have HY := hide (fun W => refFrac_any x h W h0)
  have HN := hide (fun W => refNeg_any x h W h0 h1)
  obtain ⟨p1, p2, q1, q2⟩ := h.wd.sz.pos
  obtain ⟨u, v⟩ := exp_in (x / P) q1
  obtain ⟨u', v'⟩ := exp_in x p1
  have hb : 0 ≤ b ∧ b ≤ 2000 ∧ 0 ≤ f ∧ f ≤ 60 := by rcases h with h | h <;> omega
  rcases ho with ⟨a, -⟩ | ⟨a, c, d, rfl, rfl, rfl, rfl⟩ | ⟨a, c, d, rfl, rfl, rfl, rfl⟩ | ⟨a, c, d, rfl, rfl, rfl, rfl⟩ | ⟨a, c, d, g, rfl, rfl, rfl, rfl⟩ | ⟨a, c, d, g, rfl, rfl, rfl, rfl⟩
  · exact absurd a h.f0
  · exact refOpen_nan W HX HY HN h (eq_t c) (ne_t d)
  · exact refOpen_inf W HX HY HN h (eq_t c) (ne_f d)
  · exact refOpen_nor W HX HY HN h (eq_f c) (eq_f d) (i64_id (by omega) (by omega)) (i64_id (by omega) (by omega)) (by rw [IntKind.wrap_u64]; omega)
  · exact refOpen_sub W HX HY HN h (eq_f c) (eq_t d) (eq_f g) (i64_id (by omega) (by omega)) (i64_id (by omega) (by omega))
  · exact refOpen_zer W HX HY HN h (eq_f c) (eq_t d) (eq_t g)

end Go.Proofs.Yticbhdgamblmbaa
namespace Go.Proofs.Yticbhdgamblmbaa
open Go.RowKit

def At3 (b : Nat) (x y z : Value) (w : World) : Prop := w.cell? ⟨b, 0, none⟩ = some x ∧ w.cell? ⟨b, 1, none⟩ = some y ∧ w.cell? ⟨b, 2, none⟩ = some z
theorem At3.below {b : Nat} {x y z : Value} {w w' : World} (h : At3 b x y z w) (hb : Below w.heap.size w w') : At3 b x y z w' :=
  have hz := lt_of_cell h.1
  ⟨keep1 hb hz h.1, keep1 hb hz h.2.1, keep1 hb hz h.2.2⟩
theorem at3_new (w : World) (x y z : Value) (t : TypeId) : At3 w.heap.size x y z (w.alloc (.cells #[x, y, z] t)) := by unfold At3; simp [go_sem]

set_option maxRecDepth 100000 in
set_option maxHeartbeats 4000000 in
theorem order_no {w x y z : Int} (W : World) (HW : Hid (∀ W, Calls Try.prog 8 #[] W fun r W' => r = .returned (.bool true) ∧ Below W.heap.size W W')) (HK : Hid (∀ W, Calls Try.prog 11 #[.int .i64 w] W fun r W' => r = .returned (.bool false) ∧ Below W.heap.size W W')) :
    Calls Try.prog 6 #[.int .i64 w, .agg #[.int .u64 x, .int .u64 y, .int .u64 z]] W fun r W' => r = .returned (.bool true) ∧ Below W.heap.size W W' := by
  go_enter Try.func6, Try.ntmps6
  go_wp2_with fail
  have HB := hide (below1 W (.cells #[.int .u64 x, .int .u64 y, .int .u64 z] 38))
  have HA := hide (at3_new W (.int .u64 x) (.int .u64 y) (.int .u64 z) 38)
  refine (unhide HW _).mono ?_
  rintro _ w1 ⟨rfl, hb⟩
  have HB := hide (bthen (unhide HB) hb)
  have HA := hide ((unhide HA).below hb)
  clear hb
  obtain ⟨c0, c1, c2⟩ := unhide HA
  go_wp2_with fail
  clear c0 c1 c2
  refine (unhide HK _).mono ?_
  rintro _ w1 ⟨rfl, hb⟩
  have HB := hide (bthen (unhide HB) hb)
  have HA := hide ((unhide HA).below hb)
  clear hb
  obtain ⟨c0, c1, c2⟩ := unhide HA
  go_wp2_with fail
  clear c0 c1 c2
  go_ret
  exact ⟨rfl, unhide HB⟩
set_option maxRecDepth 100000 in
set_option maxHeartbeats 4000000 in
theorem order_gt {w x y z v : Int} (W : World) (HW : Hid (∀ W, Calls Try.prog 8 #[] W fun r W' => r = .returned (.bool true) ∧ Below W.heap.size W W')) (HK : Hid (∀ W, Calls Try.prog 11 #[.int .i64 w] W fun r W' => r = .returned (.bool true) ∧ Below W.heap.size W W')) (HC : Hid (∀ W, Calls Try.prog 20 #[.int .i64 w, .int .u64 x, .int .u64 y] W fun r W' => r = .returned (.int .i64 v) ∧ Below W.heap.size W W')) (hv : 0 < v) :
    Calls Try.prog 6 #[.int .i64 w, .agg #[.int .u64 x, .int .u64 y, .int .u64 z]] W fun r W' => r = .returned (.bool true) ∧ Below W.heap.size W W' := by
  go_enter Try.func6, Try.ntmps6
  go_wp2_with fail
  have HB := hide (below1 W (.cells #[.int .u64 x, .int .u64 y, .int .u64 z] 38))
  have HA := hide (at3_new W (.int .u64 x) (.int .u64 y) (.int .u64 z) 38)
  refine (unhide HW _).mono ?_
  rintro _ w1 ⟨rfl, hb⟩
  have HB := hide (bthen (unhide HB) hb)
  have HA := hide ((unhide HA).below hb)
  clear hb
  obtain ⟨c0, c1, c2⟩ := unhide HA
  go_wp2_with fail
  clear c0 c1 c2
  refine (unhide HK _).mono ?_
  rintro _ w1 ⟨rfl, hb⟩
  have HB := hide (bthen (unhide HB) hb)
  have HA := hide ((unhide HA).below hb)
  clear hb
  obtain ⟨c0, c1, c2⟩ := unhide HA
  go_wp2_with fail
  clear c0 c1 c2
  refine (unhide HC _).mono ?_
  rintro _ w1 ⟨rfl, hb⟩
  have HB := hide (bthen (unhide HB) hb)
  have HA := hide ((unhide HA).below hb)
  clear hb
  obtain ⟨c0, c1, c2⟩ := unhide HA
  go_wp2_with fail
  clear c0 c1 c2
  go_ret
  exact ⟨rfl, unhide HB⟩
set_option maxRecDepth 100000 in
set_option maxHeartbeats 4000000 in
theorem order_le {w x y z v s t c : Int} (W : World) (HW : Hid (∀ W, Calls Try.prog 8 #[] W fun r W' => r = .returned (.bool true) ∧ Below W.heap.size W W')) (HK : Hid (∀ W, Calls Try.prog 11 #[.int .i64 w] W fun r W' => r = .returned (.bool true) ∧ Below W.heap.size W W')) (HC : Hid (∀ W, Calls Try.prog 20 #[.int .i64 w, .int .u64 x, .int .u64 y] W fun r W' => r = .returned (.int .i64 v) ∧ Below W.heap.size W W')) (hv : ¬ 0 < v) (HA1 : Hid (∀ W, Calls Try.prog 9 #[.int .i64 w, .int .u64 x, .int .u64 z] W fun r W' => r = .returned (.int .u64 s) ∧ Below W.heap.size W W')) (HA2 : Hid (∀ W, Calls Try.prog 9 #[.int .i64 w, .int .u64 y, .int .u64 z] W fun r W' => r = .returned (.int .u64 t) ∧ Below W.heap.size W W')) (HC2 : Hid (∀ W, Calls Try.prog 20 #[.int .i64 w, .int .u64 s, .int .u64 t] W fun r W' => r = .returned (.int .i64 c) ∧ Below W.heap.size W W')) (hc : (c != 1) = true) :
    Calls Try.prog 6 #[.int .i64 w, .agg #[.int .u64 x, .int .u64 y, .int .u64 z]] W fun r W' => r = .returned (.bool true) ∧ Below W.heap.size W W' := by
  go_enter Try.func6, Try.ntmps6
  go_wp2_with fail
  have HB := hide (below1 W (.cells #[.int .u64 x, .int .u64 y, .int .u64 z] 38))
  have HA := hide (at3_new W (.int .u64 x) (.int .u64 y) (.int .u64 z) 38)
  refine (unhide HW _).mono ?_
  rintro _ w1 ⟨rfl, hb⟩
  have HB := hide (bthen (unhide HB) hb)
  have HA := hide ((unhide HA).below hb)
  clear hb
  obtain ⟨c0, c1, c2⟩ := unhide HA
  go_wp2_with fail
  clear c0 c1 c2
  refine (unhide HK _).mono ?_
  rintro _ w1 ⟨rfl, hb⟩
  have HB := hide (bthen (unhide HB) hb)
  have HA := hide ((unhide HA).below hb)
  clear hb
  obtain ⟨c0, c1, c2⟩ := unhide HA
  go_wp2_with fail
  clear c0 c1 c2
  refine (unhide HC _).mono ?_
  rintro _ w1 ⟨rfl, hb⟩
  have HB := hide (bthen (unhide HB) hb)
  have HA := hide ((unhide HA).below hb)
  clear hb
  obtain ⟨c0, c1, c2⟩ := unhide HA
  go_wp2_with fail
  clear c0 c1 c2
  have HB := hide ((unhide HB).drew)
  have HA := hide ((unhide HA).below ((Below.refl _ _).drew))
  refine wp_region_held_drew (S := fun w' => w'.cell? ⟨W.heap.size, 0, none⟩ = some (.int .u64 x) ∧ w'.cell? ⟨W.heap.size, 1, none⟩ = some (.int .u64 y) ∧ w'.cell? ⟨W.heap.size, 2, none⟩ = some (.int .u64 z)) (by kernel_rfl) ?_ (fun hHeld => ?_)
  · (try dsimp only)
    exact unhide HA
  refine anyH_at #[false, false, false, false, false, false, false, false, false, false, false, false, false, false, false] (by kernel_rfl) ?_
  refine wpAnyH_take (i := 0) (oi := { dst := some 20, op := _, type := _, pos := _, after := _, guard := _ }) (v := ?vv0) rfl (by kernel_rfl) (by kernel_rfl) (by kernel_rfl) (fun _ _ _ h => h) (Or.inl ⟨by rfl, ?hy0⟩) (by assumption) ?rest0
  case hy0 => ((intro w hSw; (try dsimp only at hSw); go_simp) <;> with_reducible rfl)
  case rest0 =>
    (try simp only [Act.put, List.setIfInBounds_toArray, List.set_cons_zero, List.set_cons_succ])
    refine anyH_at #[true, false, false, false, false, false, false, false, false, false, false, false, false, false, false] (by kernel_rfl) ?_
    refine wpAnyH_take (i := 1) (oi := { dst := some 21, op := _, type := _, pos := _, after := _, guard := _ }) (v := ?vv1) rfl (by kernel_rfl) (by kernel_rfl) (by kernel_rfl) (fun _ _ _ h => h) (Or.inl ⟨by rfl, ?hy1⟩) (by assumption) ?rest1
    case hy1 => ((intro w hSw; (try dsimp only at hSw); go_simp) <;> with_reducible rfl)
    case rest1 =>
      (try simp only [Act.put, List.setIfInBounds_toArray, List.set_cons_zero, List.set_cons_succ])
      refine anyH_at #[true, true, false, false, false, false, false, false, false, false, false, false, false, false, false] (by kernel_rfl) ?_
      refine wpAnyH_take (i := 2) (oi := { dst := some 22, op := _, type := _, pos := _, after := _, guard := _ }) (v := ?vv2) rfl (by kernel_rfl) (by kernel_rfl) (by kernel_rfl) (fun _ _ _ h => h) (Or.inl ⟨by rfl, ?hy2⟩) (by assumption) ?rest2
      case hy2 => ((intro w hSw; (try dsimp only at hSw); go_simp) <;> with_reducible rfl)
      case rest2 =>
        (try simp only [Act.put, List.setIfInBounds_toArray, List.set_cons_zero, List.set_cons_succ])
        refine anyH_at #[true, true, true, false, false, false, false, false, false, false, false, false, false, false, false] (by kernel_rfl) ?_
        refine wpAnyH_take (i := 3) (oi := { dst := some 23, op := _, type := _, pos := _, after := _, guard := _ }) (v := ?vv3) rfl (by kernel_rfl) (by kernel_rfl) (by kernel_rfl) (fun _ _ _ h => h) (Or.inl ⟨by rfl, ?hy3⟩) (by assumption) ?rest3
        case hy3 => ((intro w hSw; (try dsimp only at hSw); go_simp) <;> with_reducible rfl)
        case rest3 =>
          (try simp only [Act.put, List.setIfInBounds_toArray, List.set_cons_zero, List.set_cons_succ])
          refine anyH_at #[true, true, true, true, false, false, false, false, false, false, false, false, false, false, false] (by kernel_rfl) ?_
          refine wpAnyH_take (i := 4) (oi := { dst := some 24, op := _, type := _, pos := _, after := _, guard := _ }) (v := ?vv4) rfl (by kernel_rfl) (by kernel_rfl) (by kernel_rfl) (fun _ _ _ h => h) (Or.inl ⟨by rfl, ?hy4⟩) (by assumption) ?rest4
          case hy4 => ((intro w hSw; (try dsimp only at hSw); go_simp) <;> with_reducible rfl)
          case rest4 =>
            (try simp only [Act.put, List.setIfInBounds_toArray, List.set_cons_zero, List.set_cons_succ])
            refine anyH_at #[true, true, true, true, true, false, false, false, false, false, false, false, false, false, false] (by kernel_rfl) ?_
            refine wpAnyH_take (i := 5) (oi := { dst := some 25, op := _, type := _, pos := _, after := _, guard := _ }) (v := ?vv5) rfl (by kernel_rfl) (by kernel_rfl) (by kernel_rfl) (fun _ _ _ h => h) (Or.inl ⟨by rfl, ?hy5⟩) (by assumption) ?rest5
            case hy5 => ((intro w hSw; (try dsimp only at hSw); go_simp) <;> with_reducible rfl)
            case rest5 =>
              (try simp only [Act.put, List.setIfInBounds_toArray, List.set_cons_zero, List.set_cons_succ])
              refine anyH_at #[true, true, true, true, true, true, false, false, false, false, false, false, false, false, false] (by kernel_rfl) ?_
              refine wpAnyH_take (i := 7) (oi := { dst := some 27, op := _, type := _, pos := _, after := _, guard := _ }) (v := ?vv7) rfl (by kernel_rfl) (by kernel_rfl) (by kernel_rfl) (fun _ _ _ h => h) (Or.inl ⟨by rfl, ?hy7⟩) (by assumption) ?rest7
              case hy7 => ((intro w hSw; (try dsimp only at hSw); go_simp) <;> with_reducible rfl)
              case rest7 =>
                (try simp only [Act.put, List.setIfInBounds_toArray, List.set_cons_zero, List.set_cons_succ])
                refine anyH_at #[true, true, true, true, true, true, false, true, false, false, false, false, false, false, false] (by kernel_rfl) ?_
                refine wpAnyH_take (i := 8) (oi := { dst := some 28, op := _, type := _, pos := _, after := _, guard := _ }) (v := ?vv8) rfl (by kernel_rfl) (by kernel_rfl) (by kernel_rfl) (fun _ _ _ h => h) (Or.inl ⟨by rfl, ?hy8⟩) (by assumption) ?rest8
                case hy8 => ((intro w hSw; (try dsimp only at hSw); go_simp) <;> with_reducible rfl)
                case rest8 =>
                  (try simp only [Act.put, List.setIfInBounds_toArray, List.set_cons_zero, List.set_cons_succ])
                  refine anyH_at #[true, true, true, true, true, true, false, true, true, false, false, false, false, false, false] (by kernel_rfl) ?_
                  refine wpAnyH_take (i := 9) (oi := { dst := some 29, op := _, type := _, pos := _, after := _, guard := _ }) (v := ?vv9) rfl (by kernel_rfl) (by kernel_rfl) (by kernel_rfl) (fun _ _ _ h => h) (Or.inl ⟨by rfl, ?hy9⟩) (by assumption) ?rest9
                  case hy9 => ((intro w hSw; (try dsimp only at hSw); go_simp) <;> with_reducible rfl)
                  case rest9 =>
                    (try simp only [Act.put, List.setIfInBounds_toArray, List.set_cons_zero, List.set_cons_succ])
                    refine anyH_at #[true, true, true, true, true, true, false, true, true, true, false, false, false, false, false] (by kernel_rfl) ?_
                    refine wpAnyH_take (i := 10) (oi := { dst := some 30, op := _, type := _, pos := _, after := _, guard := _ }) (v := ?vv10) rfl (by kernel_rfl) (by kernel_rfl) (by kernel_rfl) (fun _ _ _ h => h) (Or.inl ⟨by rfl, ?hy10⟩) (by assumption) ?rest10
                    case hy10 => ((intro w hSw; (try dsimp only at hSw); go_simp) <;> with_reducible rfl)
                    case rest10 =>
                      (try simp only [Act.put, List.setIfInBounds_toArray, List.set_cons_zero, List.set_cons_succ])
                      refine anyH_at #[true, true, true, true, true, true, false, true, true, true, true, false, false, false, false] (by kernel_rfl) ?_
                      refine wpAnyH_take (i := 11) (oi := { dst := some 31, op := _, type := _, pos := _, after := _, guard := _ }) (v := ?vv11) rfl (by kernel_rfl) (by kernel_rfl) (by kernel_rfl) (fun _ _ _ h => h) (Or.inl ⟨by rfl, ?hy11⟩) (by assumption) ?rest11
                      case hy11 => ((intro w hSw; (try dsimp only at hSw); go_simp) <;> with_reducible rfl)
                      case rest11 =>
                        (try simp only [Act.put, List.setIfInBounds_toArray, List.set_cons_zero, List.set_cons_succ])
                        refine anyH_at #[true, true, true, true, true, true, false, true, true, true, true, true, false, false, false] (by kernel_rfl) ?_
                        refine wpAnyH_ready (rs := [6]) (by kernel_rfl) (by simp) ?_
                        refine AllReadyH.cons (o := { dst := some 26, op := _, type := _, pos := _, after := _, guard := _ }) rfl (fun Kk hKk => ?_) AllReadyH.nil
                        go_simp
                        refine (unhide HA1 _).mono ?_
                        rintro _ w5 ⟨rfl, hbl⟩
                        have HB := hide (bthen (unhide HB) hbl)
                        have HA := hide ((unhide HA).below hbl)
                        clear hbl
                        (try go_wp2_with fail)
                        refine hKk.out _ _ ?_ (fun hHeld => ?_)
                        · (try dsimp only)
                          exact unhide HA
                        clear hKk Kk
                        (try simp only [List.setIfInBounds_toArray, List.set_cons_zero, List.set_cons_succ])
                        refine anyH_at #[true, true, true, true, true, true, true, true, true, true, true, true, false, false, false] (by kernel_rfl) ?_
                        refine wpAnyH_ready (rs := [12]) (by kernel_rfl) (by simp) ?_
                        refine AllReadyH.cons (o := { dst := some 32, op := _, type := _, pos := _, after := _, guard := _ }) rfl (fun Kk hKk => ?_) AllReadyH.nil
                        go_simp
                        refine (unhide HA2 _).mono ?_
                        rintro _ w5 ⟨rfl, hbl⟩
                        have HB := hide (bthen (unhide HB) hbl)
                        have HA := hide ((unhide HA).below hbl)
                        clear hbl
                        (try go_wp2_with fail)
                        refine hKk.out _ _ ?_ (fun hHeld => ?_)
                        · (try dsimp only)
                          exact unhide HA
                        clear hKk Kk
                        (try simp only [List.setIfInBounds_toArray, List.set_cons_zero, List.set_cons_succ])
                        refine anyH_at #[true, true, true, true, true, true, true, true, true, true, true, true, true, false, false] (by kernel_rfl) ?_
                        refine wpAnyH_ready (rs := [13]) (by kernel_rfl) (by simp) ?_
                        refine AllReadyH.cons (o := { dst := some 33, op := _, type := _, pos := _, after := _, guard := _ }) rfl (fun Kk hKk => ?_) AllReadyH.nil
                        go_simp
                        refine (unhide HC2 _).mono ?_
                        rintro _ w5 ⟨rfl, hbl⟩
                        have HB := hide (bthen (unhide HB) hbl)
                        have HA := hide ((unhide HA).below hbl)
                        clear hbl
                        (try go_wp2_with fail)
                        refine hKk.out _ _ ?_ (fun hHeld => ?_)
                        · (try dsimp only)
                          exact unhide HA
                        clear hKk Kk
                        (try simp only [List.setIfInBounds_toArray, List.set_cons_zero, List.set_cons_succ])
                        refine anyH_at #[true, true, true, true, true, true, true, true, true, true, true, true, true, true, false] (by kernel_rfl) ?_
                        refine wpAnyH_take (i := 14) (oi := { dst := some 5, op := _, type := _, pos := _, after := _, guard := _ }) (v := ?vv14) rfl (by kernel_rfl) (by kernel_rfl) (by kernel_rfl) (fun _ _ _ h => h) (Or.inl ⟨by rfl, ?hy14⟩) (by assumption) ?rest14
                        case hy14 => ((intro w hSw; (try dsimp only at hSw); go_simp) <;> with_reducible rfl)
                        case rest14 =>
                          (try simp only [Act.put, List.setIfInBounds_toArray, List.set_cons_zero, List.set_cons_succ])
                          refine anyH_at #[true, true, true, true, true, true, true, true, true, true, true, true, true, true, true] (by kernel_rfl) ?_
                          refine wpAnyH_done (by kernel_rfl) ?_ _
                          go_wp2
                          go_ret
                          exact ⟨by first | rfl | simp [hc] | simpa using hc, unhide HB⟩
set_option maxRecDepth 100000 in
set_option maxHeartbeats 4000000 in
theorem sclose_no {w x y : Int} (W : World) (HW : Hid (∀ W, Calls Try.prog 8 #[] W fun r W' => r = .returned (.bool true) ∧ Below W.heap.size W W')) (HK : Hid (∀ W, Calls Try.prog 11 #[.int .i64 w] W fun r W' => r = .returned (.bool false) ∧ Below W.heap.size W W')) :
    Calls Try.prog 7 #[.int .i64 w, .int .u64 x, .int .u64 y] W fun r W' => r = .returned (.bool true) ∧ Below W.heap.size W W' := by
  go_enter Try.func7, Try.ntmps7
  go_wp2_with fail
  refine (unhide HW _).mono ?_
  rintro _ w1 ⟨rfl, hb1⟩
  go_wp2_with fail
  refine (unhide HK _).mono ?_
  rintro _ w2 ⟨rfl, hb2⟩
  go_wp2_with fail
  go_ret
  exact ⟨rfl, bthen hb1 hb2⟩
set_option maxRecDepth 100000 in
set_option maxHeartbeats 4000000 in
theorem sclose_k1 {w x y X1 S1 X2 S2 K1 K2 : Int} {n1 n2 : Bool} (W : World) (HW : Hid (∀ W, Calls Try.prog 8 #[] W fun r W' => r = .returned (.bool true) ∧ Below W.heap.size W W')) (HK : Hid (∀ W, Calls Try.prog 11 #[.int .i64 w] W fun r W' => r = .returned (.bool true) ∧ Below W.heap.size W W')) (HO1 : Hid (∀ W, Calls Try.prog 21 #[.int .i64 w, .int .u64 x] W fun r W' => r = .returned (.agg #[.bool n1, .int .i64 K1, .int .i64 X1, .int .u64 S1]) ∧ Below W.heap.size W W')) (HO2 : Hid (∀ W, Calls Try.prog 21 #[.int .i64 w, .int .u64 y] W fun r W' => r = .returned (.agg #[.bool n2, .int .i64 K2, .int .i64 X2, .int .u64 S2]) ∧ Below W.heap.size W W')) (k1 : (K1 != 1) = true) :
    Calls Try.prog 7 #[.int .i64 w, .int .u64 x, .int .u64 y] W fun r W' => r = .returned (.bool true) ∧ Below W.heap.size W W' := by
  go_enter Try.func7, Try.ntmps7
  go_wp2_with fail
  refine (unhide HW _).mono ?_
  rintro _ w1 ⟨rfl, hb⟩
  have HB := hide hb
  clear hb
  go_wp2_with fail
  refine (unhide HK _).mono ?_
  rintro _ w2 ⟨rfl, hb⟩
  have HB := hide (bthen (unhide HB) hb)
  clear hb
  go_wp2_with fail
  refine (unhide HO1 _).mono ?_
  rintro _ w3 ⟨rfl, hb⟩
  have HB := hide (bthen (unhide HB) hb)
  clear hb
  go_wp2_with fail
  refine (unhide HO2 _).mono ?_
  rintro _ w4 ⟨rfl, hb⟩
  have HB := hide (bthen (unhide HB) hb)
  clear hb
  go_wp2_with fail
  have HB := hide (balloc (balloc (unhide HB) (.cells #[.bool n1, .int .i64 K1, .int .i64 X1, .int .u64 S1] 41)) (.cells #[.bool n2, .int .i64 K2, .int .i64 X2, .int .u64 S2] 41))
  go_ret
  exact ⟨by first | rfl | simp, unhide HB⟩
set_option maxRecDepth 100000 in
set_option maxHeartbeats 4000000 in
theorem sclose_k2 {w x y X1 S1 X2 S2 K2 : Int} {n1 n2 : Bool} (W : World) (HW : Hid (∀ W, Calls Try.prog 8 #[] W fun r W' => r = .returned (.bool true) ∧ Below W.heap.size W W')) (HK : Hid (∀ W, Calls Try.prog 11 #[.int .i64 w] W fun r W' => r = .returned (.bool true) ∧ Below W.heap.size W W')) (HO1 : Hid (∀ W, Calls Try.prog 21 #[.int .i64 w, .int .u64 x] W fun r W' => r = .returned (.agg #[.bool n1, .int .i64 1, .int .i64 X1, .int .u64 S1]) ∧ Below W.heap.size W W')) (HO2 : Hid (∀ W, Calls Try.prog 21 #[.int .i64 w, .int .u64 y] W fun r W' => r = .returned (.agg #[.bool n2, .int .i64 K2, .int .i64 X2, .int .u64 S2]) ∧ Below W.heap.size W W')) (k2 : (K2 != 1) = true) :
    Calls Try.prog 7 #[.int .i64 w, .int .u64 x, .int .u64 y] W fun r W' => r = .returned (.bool true) ∧ Below W.heap.size W W' := by
  go_enter Try.func7, Try.ntmps7
  go_wp2_with fail
  refine (unhide HW _).mono ?_
  rintro _ w1 ⟨rfl, hb⟩
  have HB := hide hb
  clear hb
  go_wp2_with fail
  refine (unhide HK _).mono ?_
  rintro _ w2 ⟨rfl, hb⟩
  have HB := hide (bthen (unhide HB) hb)
  clear hb
  go_wp2_with fail
  refine (unhide HO1 _).mono ?_
  rintro _ w3 ⟨rfl, hb⟩
  have HB := hide (bthen (unhide HB) hb)
  clear hb
  go_wp2_with fail
  refine (unhide HO2 _).mono ?_
  rintro _ w4 ⟨rfl, hb⟩
  have HB := hide (bthen (unhide HB) hb)
  clear hb
  go_wp2_with fail
  have HB := hide (balloc (balloc (unhide HB) (.cells #[.bool n1, .int .i64 1, .int .i64 X1, .int .u64 S1] 41)) (.cells #[.bool n2, .int .i64 K2, .int .i64 X2, .int .u64 S2] 41))
  go_ret
  exact ⟨by first | rfl | simp, unhide HB⟩
set_option maxRecDepth 100000 in
set_option maxHeartbeats 4000000 in
theorem sclose_n1 {w x y X1 S1 X2 S2 : Int} {n2 : Bool} (W : World) (HW : Hid (∀ W, Calls Try.prog 8 #[] W fun r W' => r = .returned (.bool true) ∧ Below W.heap.size W W')) (HK : Hid (∀ W, Calls Try.prog 11 #[.int .i64 w] W fun r W' => r = .returned (.bool true) ∧ Below W.heap.size W W')) (HO1 : Hid (∀ W, Calls Try.prog 21 #[.int .i64 w, .int .u64 x] W fun r W' => r = .returned (.agg #[.bool true, .int .i64 1, .int .i64 X1, .int .u64 S1]) ∧ Below W.heap.size W W')) (HO2 : Hid (∀ W, Calls Try.prog 21 #[.int .i64 w, .int .u64 y] W fun r W' => r = .returned (.agg #[.bool n2, .int .i64 1, .int .i64 X2, .int .u64 S2]) ∧ Below W.heap.size W W'))  :
    Calls Try.prog 7 #[.int .i64 w, .int .u64 x, .int .u64 y] W fun r W' => r = .returned (.bool true) ∧ Below W.heap.size W W' := by
  go_enter Try.func7, Try.ntmps7
  go_wp2_with fail
  refine (unhide HW _).mono ?_
  rintro _ w1 ⟨rfl, hb⟩
  have HB := hide hb
  clear hb
  go_wp2_with fail
  refine (unhide HK _).mono ?_
  rintro _ w2 ⟨rfl, hb⟩
  have HB := hide (bthen (unhide HB) hb)
  clear hb
  go_wp2_with fail
  refine (unhide HO1 _).mono ?_
  rintro _ w3 ⟨rfl, hb⟩
  have HB := hide (bthen (unhide HB) hb)
  clear hb
  go_wp2_with fail
  refine (unhide HO2 _).mono ?_
  rintro _ w4 ⟨rfl, hb⟩
  have HB := hide (bthen (unhide HB) hb)
  clear hb
  go_wp2_with fail
  have HB := hide (balloc (balloc (unhide HB) (.cells #[.bool true, .int .i64 1, .int .i64 X1, .int .u64 S1] 41)) (.cells #[.bool n2, .int .i64 1, .int .i64 X2, .int .u64 S2] 41))
  go_ret
  exact ⟨by first | rfl | simp, unhide HB⟩
set_option maxRecDepth 100000 in
set_option maxHeartbeats 4000000 in
theorem sclose_n2 {w x y X1 S1 X2 S2 : Int} (W : World) (HW : Hid (∀ W, Calls Try.prog 8 #[] W fun r W' => r = .returned (.bool true) ∧ Below W.heap.size W W')) (HK : Hid (∀ W, Calls Try.prog 11 #[.int .i64 w] W fun r W' => r = .returned (.bool true) ∧ Below W.heap.size W W')) (HO1 : Hid (∀ W, Calls Try.prog 21 #[.int .i64 w, .int .u64 x] W fun r W' => r = .returned (.agg #[.bool false, .int .i64 1, .int .i64 X1, .int .u64 S1]) ∧ Below W.heap.size W W')) (HO2 : Hid (∀ W, Calls Try.prog 21 #[.int .i64 w, .int .u64 y] W fun r W' => r = .returned (.agg #[.bool true, .int .i64 1, .int .i64 X2, .int .u64 S2]) ∧ Below W.heap.size W W'))  :
    Calls Try.prog 7 #[.int .i64 w, .int .u64 x, .int .u64 y] W fun r W' => r = .returned (.bool true) ∧ Below W.heap.size W W' := by
  go_enter Try.func7, Try.ntmps7
  go_wp2_with fail
  refine (unhide HW _).mono ?_
  rintro _ w1 ⟨rfl, hb⟩
  have HB := hide hb
  clear hb
  go_wp2_with fail
  refine (unhide HK _).mono ?_
  rintro _ w2 ⟨rfl, hb⟩
  have HB := hide (bthen (unhide HB) hb)
  clear hb
  go_wp2_with fail
  refine (unhide HO1 _).mono ?_
  rintro _ w3 ⟨rfl, hb⟩
  have HB := hide (bthen (unhide HB) hb)
  clear hb
  go_wp2_with fail
  refine (unhide HO2 _).mono ?_
  rintro _ w4 ⟨rfl, hb⟩
  have HB := hide (bthen (unhide HB) hb)
  clear hb
  go_wp2_with fail
  have HB := hide (balloc (balloc (unhide HB) (.cells #[.bool false, .int .i64 1, .int .i64 X1, .int .u64 S1] 41)) (.cells #[.bool true, .int .i64 1, .int .i64 X2, .int .u64 S2] 41))
  go_ret
  exact ⟨by first | rfl | simp, unhide HB⟩
set_option maxRecDepth 100000 in
set_option maxHeartbeats 4000000 in
theorem sclose_l1 {w x y X1 S1 X2 S2 s c : Int} (W : World) (HW : Hid (∀ W, Calls Try.prog 8 #[] W fun r W' => r = .returned (.bool true) ∧ Below W.heap.size W W')) (HK : Hid (∀ W, Calls Try.prog 11 #[.int .i64 w] W fun r W' => r = .returned (.bool true) ∧ Below W.heap.size W W')) (HO1 : Hid (∀ W, Calls Try.prog 21 #[.int .i64 w, .int .u64 x] W fun r W' => r = .returned (.agg #[.bool false, .int .i64 1, .int .i64 X1, .int .u64 S1]) ∧ Below W.heap.size W W')) (HO2 : Hid (∀ W, Calls Try.prog 21 #[.int .i64 w, .int .u64 y] W fun r W' => r = .returned (.agg #[.bool false, .int .i64 1, .int .i64 X2, .int .u64 S2]) ∧ Below W.heap.size W W')) (HA1 : Hid (∀ W, Calls Try.prog 9 #[.int .i64 w, .int .u64 x, .int .u64 x] W fun r W' => r = .returned (.int .u64 s) ∧ Below W.heap.size W W')) (HC1 : Hid (∀ W, Calls Try.prog 20 #[.int .i64 w, .int .u64 s, .int .u64 y] W fun r W' => r = .returned (.int .i64 c) ∧ Below W.heap.size W W')) (hc : c < 0) :
    Calls Try.prog 7 #[.int .i64 w, .int .u64 x, .int .u64 y] W fun r W' => r = .returned (.bool true) ∧ Below W.heap.size W W' := by
  go_enter Try.func7, Try.ntmps7
  go_wp2_with fail
  refine (unhide HW _).mono ?_
  rintro _ w1 ⟨rfl, hb⟩
  have HB := hide hb
  clear hb
  go_wp2_with fail
  refine (unhide HK _).mono ?_
  rintro _ w2 ⟨rfl, hb⟩
  have HB := hide (bthen (unhide HB) hb)
  clear hb
  go_wp2_with fail
  refine (unhide HO1 _).mono ?_
  rintro _ w3 ⟨rfl, hb⟩
  have HB := hide (bthen (unhide HB) hb)
  clear hb
  go_wp2_with fail
  refine (unhide HO2 _).mono ?_
  rintro _ w4 ⟨rfl, hb⟩
  have HB := hide (bthen (unhide HB) hb)
  clear hb
  go_wp2_with fail
  have HB := hide (balloc (balloc (unhide HB) (.cells #[.bool false, .int .i64 1, .int .i64 X1, .int .u64 S1] 41)) (.cells #[.bool false, .int .i64 1, .int .i64 X2, .int .u64 S2] 41))
  refine (unhide HA1 _).mono ?_
  rintro _ w5 ⟨rfl, hb⟩
  have HB := hide (bthen (unhide HB) hb)
  clear hb
  go_wp2_with fail
  refine (unhide HC1 _).mono ?_
  rintro _ w6 ⟨rfl, hb⟩
  have HB := hide (bthen (unhide HB) hb)
  clear hb
  go_wp2_with fail
  go_ret
  exact ⟨by first | rfl | simp, unhide HB⟩
set_option maxRecDepth 100000 in
set_option maxHeartbeats 4000000 in
theorem sclose_l2 {w x y X1 S1 X2 S2 s c t d : Int} (W : World) (HW : Hid (∀ W, Calls Try.prog 8 #[] W fun r W' => r = .returned (.bool true) ∧ Below W.heap.size W W')) (HK : Hid (∀ W, Calls Try.prog 11 #[.int .i64 w] W fun r W' => r = .returned (.bool true) ∧ Below W.heap.size W W')) (HO1 : Hid (∀ W, Calls Try.prog 21 #[.int .i64 w, .int .u64 x] W fun r W' => r = .returned (.agg #[.bool false, .int .i64 1, .int .i64 X1, .int .u64 S1]) ∧ Below W.heap.size W W')) (HO2 : Hid (∀ W, Calls Try.prog 21 #[.int .i64 w, .int .u64 y] W fun r W' => r = .returned (.agg #[.bool false, .int .i64 1, .int .i64 X2, .int .u64 S2]) ∧ Below W.heap.size W W')) (HA1 : Hid (∀ W, Calls Try.prog 9 #[.int .i64 w, .int .u64 x, .int .u64 x] W fun r W' => r = .returned (.int .u64 s) ∧ Below W.heap.size W W')) (HC1 : Hid (∀ W, Calls Try.prog 20 #[.int .i64 w, .int .u64 s, .int .u64 y] W fun r W' => r = .returned (.int .i64 c) ∧ Below W.heap.size W W')) (hc : ¬ c < 0) (HA2 : Hid (∀ W, Calls Try.prog 9 #[.int .i64 w, .int .u64 y, .int .u64 y] W fun r W' => r = .returned (.int .u64 t) ∧ Below W.heap.size W W')) (HC2 : Hid (∀ W, Calls Try.prog 20 #[.int .i64 w, .int .u64 t, .int .u64 x] W fun r W' => r = .returned (.int .i64 d) ∧ Below W.heap.size W W')) (hd : d < 0) :
    Calls Try.prog 7 #[.int .i64 w, .int .u64 x, .int .u64 y] W fun r W' => r = .returned (.bool true) ∧ Below W.heap.size W W' := by
  go_enter Try.func7, Try.ntmps7
  go_wp2_with fail
  refine (unhide HW _).mono ?_
  rintro _ w1 ⟨rfl, hb⟩
  have HB := hide hb
  clear hb
  go_wp2_with fail
  refine (unhide HK _).mono ?_
  rintro _ w2 ⟨rfl, hb⟩
  have HB := hide (bthen (unhide HB) hb)
  clear hb
  go_wp2_with fail
  refine (unhide HO1 _).mono ?_
  rintro _ w3 ⟨rfl, hb⟩
  have HB := hide (bthen (unhide HB) hb)
  clear hb
  go_wp2_with fail
  refine (unhide HO2 _).mono ?_
  rintro _ w4 ⟨rfl, hb⟩
  have HB := hide (bthen (unhide HB) hb)
  clear hb
  go_wp2_with fail
  have HB := hide (balloc (balloc (unhide HB) (.cells #[.bool false, .int .i64 1, .int .i64 X1, .int .u64 S1] 41)) (.cells #[.bool false, .int .i64 1, .int .i64 X2, .int .u64 S2] 41))
  refine (unhide HA1 _).mono ?_
  rintro _ w5 ⟨rfl, hb⟩
  have HB := hide (bthen (unhide HB) hb)
  clear hb
  go_wp2_with fail
  refine (unhide HC1 _).mono ?_
  rintro _ w6 ⟨rfl, hb⟩
  have HB := hide (bthen (unhide HB) hb)
  clear hb
  go_wp2_with fail
  refine (unhide HA2 _).mono ?_
  rintro _ w7 ⟨rfl, hb⟩
  have HB := hide (bthen (unhide HB) hb)
  clear hb
  go_wp2_with fail
  refine (unhide HC2 _).mono ?_
  rintro _ w8 ⟨rfl, hb⟩
  have HB := hide (bthen (unhide HB) hb)
  clear hb
  go_wp2_with fail
  go_ret
  exact ⟨by first | rfl | simp, unhide HB⟩
set_option maxRecDepth 100000 in
set_option maxHeartbeats 4000000 in
theorem sclose_ok {w x y X1 S1 X2 S2 s c t d u v : Int} (W : World) (HW : Hid (∀ W, Calls Try.prog 8 #[] W fun r W' => r = .returned (.bool true) ∧ Below W.heap.size W W')) (HK : Hid (∀ W, Calls Try.prog 11 #[.int .i64 w] W fun r W' => r = .returned (.bool true) ∧ Below W.heap.size W W')) (HO1 : Hid (∀ W, Calls Try.prog 21 #[.int .i64 w, .int .u64 x] W fun r W' => r = .returned (.agg #[.bool false, .int .i64 1, .int .i64 X1, .int .u64 S1]) ∧ Below W.heap.size W W')) (HO2 : Hid (∀ W, Calls Try.prog 21 #[.int .i64 w, .int .u64 y] W fun r W' => r = .returned (.agg #[.bool false, .int .i64 1, .int .i64 X2, .int .u64 S2]) ∧ Below W.heap.size W W')) (HA1 : Hid (∀ W, Calls Try.prog 9 #[.int .i64 w, .int .u64 x, .int .u64 x] W fun r W' => r = .returned (.int .u64 s) ∧ Below W.heap.size W W')) (HC1 : Hid (∀ W, Calls Try.prog 20 #[.int .i64 w, .int .u64 s, .int .u64 y] W fun r W' => r = .returned (.int .i64 c) ∧ Below W.heap.size W W')) (hc : ¬ c < 0) (HA2 : Hid (∀ W, Calls Try.prog 9 #[.int .i64 w, .int .u64 y, .int .u64 y] W fun r W' => r = .returned (.int .u64 t) ∧ Below W.heap.size W W')) (HC2 : Hid (∀ W, Calls Try.prog 20 #[.int .i64 w, .int .u64 t, .int .u64 x] W fun r W' => r = .returned (.int .i64 d) ∧ Below W.heap.size W W')) (hd : ¬ d < 0) (HS : Hid (∀ W, Calls Try.prog 10 #[.int .i64 w, .int .u64 x, .int .u64 y] W fun r W' => r = .returned (.int .u64 u) ∧ Below W.heap.size W W')) (HA3 : Hid (∀ W, Calls Try.prog 9 #[.int .i64 w, .int .u64 u, .int .u64 y] W fun r W' => r = .returned (.int .u64 v) ∧ Below W.heap.size W W')) (HU : Hid (∀ W, Calls Try.prog 22 #[.int .i64 w, .int .u64 x] W fun r W' => r = .returned (.int .u64 v) ∧ Below W.heap.size W W')) :
    Calls Try.prog 7 #[.int .i64 w, .int .u64 x, .int .u64 y] W fun r W' => r = .returned (.bool true) ∧ Below W.heap.size W W' := by
  go_enter Try.func7, Try.ntmps7
  go_wp2_with fail
  refine (unhide HW _).mono ?_
  rintro _ w1 ⟨rfl, hb⟩
  have HB := hide hb
  clear hb
  go_wp2_with fail
  refine (unhide HK _).mono ?_
  rintro _ w2 ⟨rfl, hb⟩
  have HB := hide (bthen (unhide HB) hb)
  clear hb
  go_wp2_with fail
  refine (unhide HO1 _).mono ?_
  rintro _ w3 ⟨rfl, hb⟩
  have HB := hide (bthen (unhide HB) hb)
  clear hb
  go_wp2_with fail
  refine (unhide HO2 _).mono ?_
  rintro _ w4 ⟨rfl, hb⟩
  have HB := hide (bthen (unhide HB) hb)
  clear hb
  go_wp2_with fail
  have HB := hide (balloc (balloc (unhide HB) (.cells #[.bool false, .int .i64 1, .int .i64 X1, .int .u64 S1] 41)) (.cells #[.bool false, .int .i64 1, .int .i64 X2, .int .u64 S2] 41))
  refine (unhide HA1 _).mono ?_
  rintro _ w5 ⟨rfl, hb⟩
  have HB := hide (bthen (unhide HB) hb)
  clear hb
  go_wp2_with fail
  refine (unhide HC1 _).mono ?_
  rintro _ w6 ⟨rfl, hb⟩
  have HB := hide (bthen (unhide HB) hb)
  clear hb
  go_wp2_with fail
  refine (unhide HA2 _).mono ?_
  rintro _ w7 ⟨rfl, hb⟩
  have HB := hide (bthen (unhide HB) hb)
  clear hb
  go_wp2_with fail
  refine (unhide HC2 _).mono ?_
  rintro _ w8 ⟨rfl, hb⟩
  have HB := hide (bthen (unhide HB) hb)
  clear hb
  go_wp2_with fail
  refine (unhide HS _).mono ?_
  rintro _ w9 ⟨rfl, hb⟩
  have HB := hide (bthen (unhide HB) hb)
  clear hb
  go_wp2_with fail
  refine (unhide HA3 _).mono ?_
  rintro _ w10 ⟨rfl, hb⟩
  have HB := hide (bthen (unhide HB) hb)
  clear hb
  go_wp2_with fail
  refine (unhide HU _).mono ?_
  rintro _ w11 ⟨rfl, hb⟩
  have HB := hide (bthen (unhide HB) hb)
  clear hb
  go_wp2_with fail
  go_ret
  exact ⟨by first | rfl | simp, unhide HB⟩

end Go.Proofs.Yticbhdgamblmbaa
