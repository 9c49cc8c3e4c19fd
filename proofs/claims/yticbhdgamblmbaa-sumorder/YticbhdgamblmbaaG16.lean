/- Open. -/
import Derived.Test.YticbhdgamblmbaaG13
namespace Go.Proofs.Yticbhdgamblmbaa
open Go.RowKit

theorem bset4 {a b : World} (h : Below a.heap.size a b) (v0 v1 v2 v3 : Value) : Below a.heap.size a ((((b.setCell ⟨a.heap.size, 0, none⟩ v0).setCell ⟨a.heap.size, 1, none⟩ v1).setCell ⟨a.heap.size, 2, none⟩ v2).setCell ⟨a.heap.size, 3, none⟩ v3) :=
  bset (bset (bset (bset h _ (Nat.le_refl _) _ _) _ (Nat.le_refl _) _ _) _ (Nat.le_refl _) _ _) _ (Nat.le_refl _) _ _
theorem room4 {W w1 : World} {v0 v1 v2 v3 : Value} {t : TypeId} (hb : Below (W.alloc (.cells #[v0, v1, v2, v3] t)).heap.size (W.alloc (.cells #[v0, v1, v2, v3] t)) w1) : Room W.heap.size 4 w1 :=
  Room.below (w := W.alloc (.cells #[v0, v1, v2, v3] t)) (by
    intro o ho
    match o, ho with
    | 0, _ | 1, _ | 2, _ | 3, _ => simp [go_sem]) hb
theorem At5.set {b c : Nat} {x y z u v : Value} {w : World} (h : At5 b x y z u v w) (hc : b ≠ c) (o : Nat) (k : Value) : At5 b x y z u v (w.setCell ⟨c, o, none⟩ k) :=
  ⟨keep_set _ _ _ hc h.1, keep_set _ _ _ hc h.2.1, keep_set _ _ _ hc h.2.2.1, keep_set _ _ _ hc h.2.2.2.1, keep_set _ _ _ hc h.2.2.2.2⟩

set_option maxRecDepth 100000 in
set_option maxHeartbeats 4000000 in
theorem open_no {w e f P Q b : Int} (x xx yy : Int) (n : Bool) (_ : Sz e f P Q b) (W : World)
    (HT : Hid (∀ W, Calls Try.prog 25 #[.int .i64 w, .int .u64 x] W fun r W' => r = .returned (.agg #[.int .i64 e, .int .i64 f, .bool n, .int .u64 xx, .int .u64 yy]) ∧ Below W.heap.size W W')) (hf : (f != 0) = false) :
    Calls Try.prog 18 #[.int .i64 w, .int .u64 x] W fun r W' => r = .returned (.agg #[.bool false, .int .i64 0, .int .i64 0, .int .u64 0]) ∧ Below W.heap.size W W' := by
  go_enter Try.func18, Try.ntmps18
  go_wp2_with fail
  refine (unhide HT _).mono ?_
  rintro _ w1 ⟨rfl, hbl⟩
  have HR := hide ((room4 hbl).alloc (.cells #[.int .i64 e, .int .i64 f, .bool n, .int .u64 xx, .int .u64 yy] 48))
  have HB := hide (balloc (bthen (below1 _ _) hbl) (.cells #[.int .i64 e, .int .i64 f, .bool n, .int .u64 xx, .int .u64 yy] 48))
  have HA : Hid (At5 w1.heap.size (.int .i64 e) (.int .i64 f) (.bool n) (.int .u64 xx) (.int .u64 yy) (w1.alloc (.cells #[.int .i64 e, .int .i64 f, .bool n, .int .u64 xx, .int .u64 yy] 48))) := by unfold Hid At5; simp [go_sem]
  have hz1 : W.heap.size < w1.heap.size := by have := hbl.size; simp at this; omega
  clear hbl HT
  go_wp2_with fail
  refine (known_any e f _).mono ?_
  rintro _ w2 ⟨rfl, hbl⟩
  have HB := hide (bthen (unhide HB) hbl)
  have HA := hide ((unhide HA).below hbl)
  have HR := hide ((unhide HR).below hbl)
  clear hbl
  obtain ⟨⟨v0, c0⟩, f0⟩ := (unhide HR) 0 (by omega)
  obtain ⟨⟨v1, c1⟩, f1⟩ := (unhide HR) 1 (by omega)
  obtain ⟨⟨v2, c2⟩, f2⟩ := (unhide HR) 2 (by omega)
  obtain ⟨⟨v3, c3⟩, f3⟩ := (unhide HR) 3 (by omega)
  go_wp2_with fail
  exact bodyPost_ret (v := .agg #[.bool false, .int .i64 0, .int .i64 0, .int .u64 0]) (by simp (maxDischargeDepth := 8) [results, Try.results18, go_sem, c0, c1, c2, c3]) rfl ⟨rfl, bset4 (unhide HB) _ _ _ _⟩

set_option maxRecDepth 100000 in
set_option maxHeartbeats 4000000 in
theorem open_nan {w e f P Q b : Int} (x xx yy : Int) (n : Bool) (hs : Sz e f P Q b) (W : World)
    (HT : Hid (∀ W, Calls Try.prog 25 #[.int .i64 w, .int .u64 x] W fun r W' => r = .returned (.agg #[.int .i64 e, .int .i64 f, .bool n, .int .u64 xx, .int .u64 yy]) ∧ Below W.heap.size W W')) (hf : (f != 0) = true) (h1 : (xx == Q - 1) = true) (h2 : (yy != 0) = true) :
    Calls Try.prog 18 #[.int .i64 w, .int .u64 x] W fun r W' => r = .returned (.agg #[.bool false, .int .i64 3, .int .i64 0, .int .u64 0]) ∧ Below W.heap.size W W' := by
  go_enter Try.func18, Try.ntmps18
  go_wp2_with fail
  refine (unhide HT _).mono ?_
  rintro _ w1 ⟨rfl, hbl⟩
  have HR := hide ((room4 hbl).alloc (.cells #[.int .i64 e, .int .i64 f, .bool n, .int .u64 xx, .int .u64 yy] 48))
  have HB := hide (balloc (bthen (below1 _ _) hbl) (.cells #[.int .i64 e, .int .i64 f, .bool n, .int .u64 xx, .int .u64 yy] 48))
  have HA : Hid (At5 w1.heap.size (.int .i64 e) (.int .i64 f) (.bool n) (.int .u64 xx) (.int .u64 yy) (w1.alloc (.cells #[.int .i64 e, .int .i64 f, .bool n, .int .u64 xx, .int .u64 yy] 48))) := by unfold Hid At5; simp [go_sem]
  have hz1 : W.heap.size < w1.heap.size := by have := hbl.size; simp at this; omega
  clear hbl HT
  go_wp2_with fail
  refine (known_any e f _).mono ?_
  rintro _ w2 ⟨rfl, hbl⟩
  have HB := hide (bthen (unhide HB) hbl)
  have HA := hide ((unhide HA).below hbl)
  have HR := hide ((unhide HR).below hbl)
  clear hbl
  obtain ⟨a0, a1, a2, a3, a4⟩ := unhide HA
  go_wp2_with fail
  refine (isNan_any n xx yy hs _).mono ?_
  rintro _ w3 ⟨rfl, hbl⟩
  clear a0 a1 a2 a3 a4
  have HB := hide (bthen (unhide HB) hbl)
  have HA := hide ((unhide HA).below hbl)
  have HR := hide ((unhide HR).below hbl)
  clear hbl
  obtain ⟨⟨v0, c0⟩, f0⟩ := (unhide HR) 0 (by omega)
  obtain ⟨⟨v1, c1⟩, f1⟩ := (unhide HR) 1 (by omega)
  obtain ⟨⟨v2, c2⟩, f2⟩ := (unhide HR) 2 (by omega)
  obtain ⟨⟨v3, c3⟩, f3⟩ := (unhide HR) 3 (by omega)
  rw [h1, h2]
  go_wp2_with fail
  exact bodyPost_ret (v := .agg #[.bool false, .int .i64 3, .int .i64 0, .int .u64 0]) (by simp (maxDischargeDepth := 8) [results, Try.results18, go_sem, c0, c1, c2, c3]) rfl ⟨rfl, bset4 (unhide HB) _ _ _ _⟩

set_option maxRecDepth 100000 in
set_option maxHeartbeats 4000000 in
theorem open_inf {w e f P Q b : Int} (x xx yy : Int) (n : Bool) (hs : Sz e f P Q b) (W : World)
    (HT : Hid (∀ W, Calls Try.prog 25 #[.int .i64 w, .int .u64 x] W fun r W' => r = .returned (.agg #[.int .i64 e, .int .i64 f, .bool n, .int .u64 xx, .int .u64 yy]) ∧ Below W.heap.size W W')) (hf : (f != 0) = true) (h1 : (xx == Q - 1) = true) (h2 : (yy != 0) = false) :
    Calls Try.prog 18 #[.int .i64 w, .int .u64 x] W fun r W' => r = .returned (.agg #[.bool n, .int .i64 2, .int .i64 0, .int .u64 0]) ∧ Below W.heap.size W W' := by
  go_enter Try.func18, Try.ntmps18
  go_wp2_with fail
  refine (unhide HT _).mono ?_
  rintro _ w1 ⟨rfl, hbl⟩
  have HR := hide ((room4 hbl).alloc (.cells #[.int .i64 e, .int .i64 f, .bool n, .int .u64 xx, .int .u64 yy] 48))
  have HB := hide (balloc (bthen (below1 _ _) hbl) (.cells #[.int .i64 e, .int .i64 f, .bool n, .int .u64 xx, .int .u64 yy] 48))
  have HA : Hid (At5 w1.heap.size (.int .i64 e) (.int .i64 f) (.bool n) (.int .u64 xx) (.int .u64 yy) (w1.alloc (.cells #[.int .i64 e, .int .i64 f, .bool n, .int .u64 xx, .int .u64 yy] 48))) := by unfold Hid At5; simp [go_sem]
  have hz1 : W.heap.size < w1.heap.size := by have := hbl.size; simp at this; omega
  clear hbl HT
  go_wp2_with fail
  refine (known_any e f _).mono ?_
  rintro _ w2 ⟨rfl, hbl⟩
  have HB := hide (bthen (unhide HB) hbl)
  have HA := hide ((unhide HA).below hbl)
  have HR := hide ((unhide HR).below hbl)
  clear hbl
  obtain ⟨a0, a1, a2, a3, a4⟩ := unhide HA
  go_wp2_with fail
  refine (isNan_any n xx yy hs _).mono ?_
  rintro _ w3 ⟨rfl, hbl⟩
  clear a0 a1 a2 a3 a4
  have HB := hide (bthen (unhide HB) hbl)
  have HA := hide ((unhide HA).below hbl)
  have HR := hide ((unhide HR).below hbl)
  clear hbl
  rw [h1, h2]
  go_wp2_with fail
  have HB := hide (unhide HB).drew
  have HA := hide ((unhide HA).below ((Below.refl _ _).drew))
  have HR := hide (unhide HR).drew
  refine wp_region_held_drew (S := fun w' => (w'.cell? ⟨w1.heap.size, 0, none⟩ = some (.int .i64 e) ∧ w'.cell? ⟨w1.heap.size, 1, none⟩ = some (.int .i64 f) ∧ w'.cell? ⟨w1.heap.size, 2, none⟩ = some (.bool n) ∧ w'.cell? ⟨w1.heap.size, 3, none⟩ = some (.int .u64 xx) ∧ w'.cell? ⟨w1.heap.size, 4, none⟩ = some (.int .u64 yy)) ∧ Room W.heap.size 4 w') (by kernel_rfl) ?_ (fun hHeld => ?_)
  · (try dsimp only)
    exact ⟨unhide HA, unhide HR⟩
  refine anyH_at #[false, false, false, false, false, false, false] (by kernel_rfl) ?_
  refine wpAnyH_take (i := 0) (oi := { dst := some 20, op := _, type := _, pos := _, after := _, guard := _ }) (v := ?vv0r6) rfl (by kernel_rfl) (by kernel_rfl) (by kernel_rfl) (fun _ _ _ h => h) (Or.inl ⟨by rfl, ?hy0r6⟩) (by assumption) ?rest0r6
  case hy0r6 => ((intro w hSw; (try dsimp only at hSw); go_simp) <;> with_reducible rfl)
  case rest0r6 =>
    (try simp only [Act.put, List.setIfInBounds_toArray, List.set_cons_zero, List.set_cons_succ])
    refine anyH_at #[true, false, false, false, false, false, false] (by kernel_rfl) ?_
    refine wpAnyH_take (i := 1) (oi := { dst := some 21, op := _, type := _, pos := _, after := _, guard := _ }) (v := ?vv1r6) rfl (by kernel_rfl) (by kernel_rfl) (by kernel_rfl) (fun _ _ _ h => h) (Or.inl ⟨by rfl, ?hy1r6⟩) (by assumption) ?rest1r6
    case hy1r6 => ((intro w hSw; (try dsimp only at hSw); go_simp) <;> with_reducible rfl)
    case rest1r6 =>
      (try simp only [Act.put, List.setIfInBounds_toArray, List.set_cons_zero, List.set_cons_succ])
      refine anyH_at #[true, true, false, false, false, false, false] (by kernel_rfl) ?_
      refine wpAnyH_take (i := 2) (oi := { dst := some 22, op := _, type := _, pos := _, after := _, guard := _ }) (v := ?vv2r6) rfl (by kernel_rfl) (by kernel_rfl) (by kernel_rfl) (fun _ _ _ h => h) (Or.inl ⟨by rfl, ?hy2r6⟩) (by assumption) ?rest2r6
      case hy2r6 => ((intro w hSw; (try dsimp only at hSw); go_simp) <;> with_reducible rfl)
      case rest2r6 =>
        (try simp only [Act.put, List.setIfInBounds_toArray, List.set_cons_zero, List.set_cons_succ])
        refine anyH_at #[true, true, true, false, false, false, false] (by kernel_rfl) ?_
        refine wpAnyH_take (i := 3) (oi := { dst := some 23, op := _, type := _, pos := _, after := _, guard := _ }) (v := ?vv3r6) rfl (by kernel_rfl) (by kernel_rfl) (by kernel_rfl) (fun _ _ _ h => h) (Or.inl ⟨by rfl, ?hy3r6⟩) (by assumption) ?rest3r6
        case hy3r6 => ((intro w hSw; (try dsimp only at hSw); go_simp) <;> with_reducible rfl)
        case rest3r6 =>
          (try simp only [Act.put, List.setIfInBounds_toArray, List.set_cons_zero, List.set_cons_succ])
          refine anyH_at #[true, true, true, true, false, false, false] (by kernel_rfl) ?_
          refine wpAnyH_ready (rs := [4]) (by kernel_rfl) (by simp) ?_
          refine AllReadyH.cons (o := { dst := some 24, op := _, type := _, pos := _, after := _, guard := _ }) rfl (fun Kk hKk => ?_) AllReadyH.nil
          go_simp
          refine (last_any hs _).mono ?_
          rintro _ w4 ⟨rfl, hbl⟩
          have HB := hide (bthen (unhide HB) hbl)
          have HA := hide ((unhide HA).below hbl)
          have HR := hide ((unhide HR).below hbl)
          clear hbl
          (try go_wp2_with fail)
          refine hKk.out _ _ ?_ (fun hHeld => ?_)
          · (try dsimp only)
            exact ⟨unhide HA, unhide HR⟩
          clear hKk Kk
          (try simp only [List.setIfInBounds_toArray, List.set_cons_zero, List.set_cons_succ])
          refine anyH_at #[true, true, true, true, true, false, false] (by kernel_rfl) ?_
          refine wpAnyH_take (i := 5) (oi := { dst := some 25, op := _, type := _, pos := _, after := _, guard := _ }) (v := ?vv5r6) rfl (by kernel_rfl) (by kernel_rfl) (by kernel_rfl) (fun _ _ _ h => h) (Or.inl ⟨by rfl, ?hy5r6⟩) (by assumption) ?rest5r6
          case hy5r6 => ((intro w hSw; (try dsimp only at hSw); go_simp) <;> with_reducible rfl)
          case rest5r6 =>
            (try simp only [Act.put, List.setIfInBounds_toArray, List.set_cons_zero, List.set_cons_succ])
            refine anyH_at #[true, true, true, true, true, true, false] (by kernel_rfl) ?_
            refine wpAnyH_take (i := 6) (oi := { dst := some 19, op := _, type := _, pos := _, after := _, guard := _ }) (v := ?vv6r6) rfl (by kernel_rfl) (by kernel_rfl) (by kernel_rfl) (fun _ _ _ h => h) (Or.inl ⟨by rfl, ?hy6r6⟩) (by assumption) ?rest6r6
            case hy6r6 => ((intro w hSw; (try dsimp only at hSw); go_simp) <;> with_reducible rfl)
            case rest6r6 =>
              (try simp only [Act.put, List.setIfInBounds_toArray, List.set_cons_zero, List.set_cons_succ])
              refine anyH_at #[true, true, true, true, true, true, true] (by kernel_rfl) ?_
              refine wpAnyH_done (by kernel_rfl) ?_ _
              clear hHeld
              obtain ⟨a0, a1, a2, a3, a4⟩ := unhide HA
              obtain ⟨⟨v0, c0⟩, f0⟩ := (unhide HR) 0 (by omega)
              obtain ⟨⟨v1, c1⟩, f1⟩ := (unhide HR) 1 (by omega)
              obtain ⟨⟨v2, c2⟩, f2⟩ := (unhide HR) 2 (by omega)
              obtain ⟨⟨v3, c3⟩, f3⟩ := (unhide HR) 3 (by omega)
              go_wp2_with fail
              exact bodyPost_ret (v := .agg #[.bool n, .int .i64 2, .int .i64 0, .int .u64 0]) (by simp (maxDischargeDepth := 8) [results, Try.results18, go_sem, c0, c1, c2, c3]) rfl ⟨rfl, bset4 (unhide HB) _ _ _ _⟩

set_option maxRecDepth 100000 in
set_option maxHeartbeats 4000000 in
theorem open_zer {w e f P Q b : Int} (x xx yy : Int) (n : Bool) (hs : Sz e f P Q b) (W : World)
    (HT : Hid (∀ W, Calls Try.prog 25 #[.int .i64 w, .int .u64 x] W fun r W' => r = .returned (.agg #[.int .i64 e, .int .i64 f, .bool n, .int .u64 xx, .int .u64 yy]) ∧ Below W.heap.size W W')) (hf : (f != 0) = true) (h1 : (xx == Q - 1) = false) (h3 : (xx != 0) = false) (h2 : (yy != 0) = false) :
    Calls Try.prog 18 #[.int .i64 w, .int .u64 x] W fun r W' => r = .returned (.agg #[.bool n, .int .i64 0, .int .i64 0, .int .u64 0]) ∧ Below W.heap.size W W' := by
  go_enter Try.func18, Try.ntmps18
  go_wp2_with fail
  refine (unhide HT _).mono ?_
  rintro _ w1 ⟨rfl, hbl⟩
  have HR := hide ((room4 hbl).alloc (.cells #[.int .i64 e, .int .i64 f, .bool n, .int .u64 xx, .int .u64 yy] 48))
  have HB := hide (balloc (bthen (below1 _ _) hbl) (.cells #[.int .i64 e, .int .i64 f, .bool n, .int .u64 xx, .int .u64 yy] 48))
  have HA : Hid (At5 w1.heap.size (.int .i64 e) (.int .i64 f) (.bool n) (.int .u64 xx) (.int .u64 yy) (w1.alloc (.cells #[.int .i64 e, .int .i64 f, .bool n, .int .u64 xx, .int .u64 yy] 48))) := by unfold Hid At5; simp [go_sem]
  have hz1 : W.heap.size < w1.heap.size := by have := hbl.size; simp at this; omega
  clear hbl HT
  go_wp2_with fail
  refine (known_any e f _).mono ?_
  rintro _ w2 ⟨rfl, hbl⟩
  have HB := hide (bthen (unhide HB) hbl)
  have HA := hide ((unhide HA).below hbl)
  have HR := hide ((unhide HR).below hbl)
  clear hbl
  obtain ⟨a0, a1, a2, a3, a4⟩ := unhide HA
  go_wp2_with fail
  refine (isNan_any n xx yy hs _).mono ?_
  rintro _ w3 ⟨rfl, hbl⟩
  clear a0 a1 a2 a3 a4
  have HB := hide (bthen (unhide HB) hbl)
  have HA := hide ((unhide HA).below hbl)
  have HR := hide ((unhide HR).below hbl)
  clear hbl
  rw [h1, Bool.false_and]
  go_wp2_with fail
  have HB := hide (unhide HB).drew
  have HA := hide ((unhide HA).below ((Below.refl _ _).drew))
  have HR := hide (unhide HR).drew
  refine wp_region_held_drew (S := fun w' => (w'.cell? ⟨w1.heap.size, 0, none⟩ = some (.int .i64 e) ∧ w'.cell? ⟨w1.heap.size, 1, none⟩ = some (.int .i64 f) ∧ w'.cell? ⟨w1.heap.size, 2, none⟩ = some (.bool n) ∧ w'.cell? ⟨w1.heap.size, 3, none⟩ = some (.int .u64 xx) ∧ w'.cell? ⟨w1.heap.size, 4, none⟩ = some (.int .u64 yy)) ∧ Room W.heap.size 4 w') (by kernel_rfl) ?_ (fun hHeld => ?_)
  · (try dsimp only)
    exact ⟨unhide HA, unhide HR⟩
  refine anyH_at #[false, false, false, false, false, false, false] (by kernel_rfl) ?_
  refine wpAnyH_take (i := 0) (oi := { dst := some 20, op := _, type := _, pos := _, after := _, guard := _ }) (v := ?vv0r6) rfl (by kernel_rfl) (by kernel_rfl) (by kernel_rfl) (fun _ _ _ h => h) (Or.inl ⟨by rfl, ?hy0r6⟩) (by assumption) ?rest0r6
  case hy0r6 => ((intro w hSw; (try dsimp only at hSw); go_simp) <;> with_reducible rfl)
  case rest0r6 =>
    (try simp only [Act.put, List.setIfInBounds_toArray, List.set_cons_zero, List.set_cons_succ])
    refine anyH_at #[true, false, false, false, false, false, false] (by kernel_rfl) ?_
    refine wpAnyH_take (i := 1) (oi := { dst := some 21, op := _, type := _, pos := _, after := _, guard := _ }) (v := ?vv1r6) rfl (by kernel_rfl) (by kernel_rfl) (by kernel_rfl) (fun _ _ _ h => h) (Or.inl ⟨by rfl, ?hy1r6⟩) (by assumption) ?rest1r6
    case hy1r6 => ((intro w hSw; (try dsimp only at hSw); go_simp) <;> with_reducible rfl)
    case rest1r6 =>
      (try simp only [Act.put, List.setIfInBounds_toArray, List.set_cons_zero, List.set_cons_succ])
      refine anyH_at #[true, true, false, false, false, false, false] (by kernel_rfl) ?_
      refine wpAnyH_take (i := 2) (oi := { dst := some 22, op := _, type := _, pos := _, after := _, guard := _ }) (v := ?vv2r6) rfl (by kernel_rfl) (by kernel_rfl) (by kernel_rfl) (fun _ _ _ h => h) (Or.inl ⟨by rfl, ?hy2r6⟩) (by assumption) ?rest2r6
      case hy2r6 => ((intro w hSw; (try dsimp only at hSw); go_simp) <;> with_reducible rfl)
      case rest2r6 =>
        (try simp only [Act.put, List.setIfInBounds_toArray, List.set_cons_zero, List.set_cons_succ])
        refine anyH_at #[true, true, true, false, false, false, false] (by kernel_rfl) ?_
        refine wpAnyH_take (i := 3) (oi := { dst := some 23, op := _, type := _, pos := _, after := _, guard := _ }) (v := ?vv3r6) rfl (by kernel_rfl) (by kernel_rfl) (by kernel_rfl) (fun _ _ _ h => h) (Or.inl ⟨by rfl, ?hy3r6⟩) (by assumption) ?rest3r6
        case hy3r6 => ((intro w hSw; (try dsimp only at hSw); go_simp) <;> with_reducible rfl)
        case rest3r6 =>
          (try simp only [Act.put, List.setIfInBounds_toArray, List.set_cons_zero, List.set_cons_succ])
          refine anyH_at #[true, true, true, true, false, false, false] (by kernel_rfl) ?_
          refine wpAnyH_ready (rs := [4]) (by kernel_rfl) (by simp) ?_
          refine AllReadyH.cons (o := { dst := some 24, op := _, type := _, pos := _, after := _, guard := _ }) rfl (fun Kk hKk => ?_) AllReadyH.nil
          go_simp
          refine (last_any hs _).mono ?_
          rintro _ w4 ⟨rfl, hbl⟩
          have HB := hide (bthen (unhide HB) hbl)
          have HA := hide ((unhide HA).below hbl)
          have HR := hide ((unhide HR).below hbl)
          clear hbl
          (try go_wp2_with fail)
          refine hKk.out _ _ ?_ (fun hHeld => ?_)
          · (try dsimp only)
            exact ⟨unhide HA, unhide HR⟩
          clear hKk Kk
          (try simp only [List.setIfInBounds_toArray, List.set_cons_zero, List.set_cons_succ])
          refine anyH_at #[true, true, true, true, true, false, false] (by kernel_rfl) ?_
          refine wpAnyH_take (i := 5) (oi := { dst := some 25, op := _, type := _, pos := _, after := _, guard := _ }) (v := ?vv5r6) rfl (by kernel_rfl) (by kernel_rfl) (by kernel_rfl) (fun _ _ _ h => h) (Or.inl ⟨by rfl, ?hy5r6⟩) (by assumption) ?rest5r6
          case hy5r6 => ((intro w hSw; (try dsimp only at hSw); go_simp) <;> with_reducible rfl)
          case rest5r6 =>
            (try simp only [Act.put, List.setIfInBounds_toArray, List.set_cons_zero, List.set_cons_succ])
            refine anyH_at #[true, true, true, true, true, true, false] (by kernel_rfl) ?_
            refine wpAnyH_take (i := 6) (oi := { dst := some 19, op := _, type := _, pos := _, after := _, guard := _ }) (v := ?vv6r6) rfl (by kernel_rfl) (by kernel_rfl) (by kernel_rfl) (fun _ _ _ h => h) (Or.inl ⟨by rfl, ?hy6r6⟩) (by assumption) ?rest6r6
            case hy6r6 => ((intro w hSw; (try dsimp only at hSw); go_simp) <;> with_reducible rfl)
            case rest6r6 =>
              (try simp only [Act.put, List.setIfInBounds_toArray, List.set_cons_zero, List.set_cons_succ])
              refine anyH_at #[true, true, true, true, true, true, true] (by kernel_rfl) ?_
              refine wpAnyH_done (by kernel_rfl) ?_ _
              clear hHeld
              obtain ⟨a0, a1, a2, a3, a4⟩ := unhide HA
              obtain ⟨⟨v0, c0⟩, f0⟩ := (unhide HR) 0 (by omega)
              obtain ⟨⟨v1, c1⟩, f1⟩ := (unhide HR) 1 (by omega)
              obtain ⟨⟨v2, c2⟩, f2⟩ := (unhide HR) 2 (by omega)
              obtain ⟨⟨v3, c3⟩, f3⟩ := (unhide HR) 3 (by omega)
              go_wp2_with fail
              exact bodyPost_ret (v := .agg #[.bool n, .int .i64 0, .int .i64 0, .int .u64 0]) (by simp (maxDischargeDepth := 8) [results, Try.results18, go_sem, c0, c1, c2, c3]) rfl ⟨rfl, bset4 (unhide HB) _ _ _ _⟩

set_option maxRecDepth 100000 in
set_option maxHeartbeats 4000000 in
theorem open_sub {w e f P Q b : Int} (x xx yy : Int) (n : Bool) (hs : Sz e f P Q b) (W : World)
    (HT : Hid (∀ W, Calls Try.prog 25 #[.int .i64 w, .int .u64 x] W fun r W' => r = .returned (.agg #[.int .i64 e, .int .i64 f, .bool n, .int .u64 xx, .int .u64 yy]) ∧ Below W.heap.size W W')) (hf : (f != 0) = true) (h1 : (xx == Q - 1) = false) (h3 : (xx != 0) = false) (h2 : (yy != 0) = true) :
    Calls Try.prog 18 #[.int .i64 w, .int .u64 x] W fun r W' => r = .returned (.agg #[.bool n, .int .i64 1, .int .i64 (1 - b - f), .int .u64 yy]) ∧ Below W.heap.size W W' := by
  go_enter Try.func18, Try.ntmps18
  go_wp2_with fail
  refine (unhide HT _).mono ?_
  rintro _ w1 ⟨rfl, hbl⟩
  have HR := hide ((room4 hbl).alloc (.cells #[.int .i64 e, .int .i64 f, .bool n, .int .u64 xx, .int .u64 yy] 48))
  have HB := hide (balloc (bthen (below1 _ _) hbl) (.cells #[.int .i64 e, .int .i64 f, .bool n, .int .u64 xx, .int .u64 yy] 48))
  have HA : Hid (At5 w1.heap.size (.int .i64 e) (.int .i64 f) (.bool n) (.int .u64 xx) (.int .u64 yy) (w1.alloc (.cells #[.int .i64 e, .int .i64 f, .bool n, .int .u64 xx, .int .u64 yy] 48))) := by unfold Hid At5; simp [go_sem]
  have hz1 : W.heap.size < w1.heap.size := by have := hbl.size; simp at this; omega
  clear hbl HT
  go_wp2_with fail
  refine (known_any e f _).mono ?_
  rintro _ w2 ⟨rfl, hbl⟩
  have HB := hide (bthen (unhide HB) hbl)
  have HA := hide ((unhide HA).below hbl)
  have HR := hide ((unhide HR).below hbl)
  clear hbl
  obtain ⟨a0, a1, a2, a3, a4⟩ := unhide HA
  go_wp2_with fail
  refine (isNan_any n xx yy hs _).mono ?_
  rintro _ w3 ⟨rfl, hbl⟩
  clear a0 a1 a2 a3 a4
  have HB := hide (bthen (unhide HB) hbl)
  have HA := hide ((unhide HA).below hbl)
  have HR := hide ((unhide HR).below hbl)
  clear hbl
  rw [h1, Bool.false_and]
  go_wp2_with fail
  have HB := hide (unhide HB).drew
  have HA := hide ((unhide HA).below ((Below.refl _ _).drew))
  have HR := hide (unhide HR).drew
  refine wp_region_held_drew (S := fun w' => (w'.cell? ⟨w1.heap.size, 0, none⟩ = some (.int .i64 e) ∧ w'.cell? ⟨w1.heap.size, 1, none⟩ = some (.int .i64 f) ∧ w'.cell? ⟨w1.heap.size, 2, none⟩ = some (.bool n) ∧ w'.cell? ⟨w1.heap.size, 3, none⟩ = some (.int .u64 xx) ∧ w'.cell? ⟨w1.heap.size, 4, none⟩ = some (.int .u64 yy)) ∧ Room W.heap.size 4 w') (by kernel_rfl) ?_ (fun hHeld => ?_)
  · (try dsimp only)
    exact ⟨unhide HA, unhide HR⟩
  refine anyH_at #[false, false, false, false, false, false, false] (by kernel_rfl) ?_
  refine wpAnyH_take (i := 0) (oi := { dst := some 20, op := _, type := _, pos := _, after := _, guard := _ }) (v := ?vv0r6) rfl (by kernel_rfl) (by kernel_rfl) (by kernel_rfl) (fun _ _ _ h => h) (Or.inl ⟨by rfl, ?hy0r6⟩) (by assumption) ?rest0r6
  case hy0r6 => ((intro w hSw; (try dsimp only at hSw); go_simp) <;> with_reducible rfl)
  case rest0r6 =>
    (try simp only [Act.put, List.setIfInBounds_toArray, List.set_cons_zero, List.set_cons_succ])
    refine anyH_at #[true, false, false, false, false, false, false] (by kernel_rfl) ?_
    refine wpAnyH_take (i := 1) (oi := { dst := some 21, op := _, type := _, pos := _, after := _, guard := _ }) (v := ?vv1r6) rfl (by kernel_rfl) (by kernel_rfl) (by kernel_rfl) (fun _ _ _ h => h) (Or.inl ⟨by rfl, ?hy1r6⟩) (by assumption) ?rest1r6
    case hy1r6 => ((intro w hSw; (try dsimp only at hSw); go_simp) <;> with_reducible rfl)
    case rest1r6 =>
      (try simp only [Act.put, List.setIfInBounds_toArray, List.set_cons_zero, List.set_cons_succ])
      refine anyH_at #[true, true, false, false, false, false, false] (by kernel_rfl) ?_
      refine wpAnyH_take (i := 2) (oi := { dst := some 22, op := _, type := _, pos := _, after := _, guard := _ }) (v := ?vv2r6) rfl (by kernel_rfl) (by kernel_rfl) (by kernel_rfl) (fun _ _ _ h => h) (Or.inl ⟨by rfl, ?hy2r6⟩) (by assumption) ?rest2r6
      case hy2r6 => ((intro w hSw; (try dsimp only at hSw); go_simp) <;> with_reducible rfl)
      case rest2r6 =>
        (try simp only [Act.put, List.setIfInBounds_toArray, List.set_cons_zero, List.set_cons_succ])
        refine anyH_at #[true, true, true, false, false, false, false] (by kernel_rfl) ?_
        refine wpAnyH_take (i := 3) (oi := { dst := some 23, op := _, type := _, pos := _, after := _, guard := _ }) (v := ?vv3r6) rfl (by kernel_rfl) (by kernel_rfl) (by kernel_rfl) (fun _ _ _ h => h) (Or.inl ⟨by rfl, ?hy3r6⟩) (by assumption) ?rest3r6
        case hy3r6 => ((intro w hSw; (try dsimp only at hSw); go_simp) <;> with_reducible rfl)
        case rest3r6 =>
          (try simp only [Act.put, List.setIfInBounds_toArray, List.set_cons_zero, List.set_cons_succ])
          refine anyH_at #[true, true, true, true, false, false, false] (by kernel_rfl) ?_
          refine wpAnyH_ready (rs := [4]) (by kernel_rfl) (by simp) ?_
          refine AllReadyH.cons (o := { dst := some 24, op := _, type := _, pos := _, after := _, guard := _ }) rfl (fun Kk hKk => ?_) AllReadyH.nil
          go_simp
          refine (last_any hs _).mono ?_
          rintro _ w4 ⟨rfl, hbl⟩
          have HB := hide (bthen (unhide HB) hbl)
          have HA := hide ((unhide HA).below hbl)
          have HR := hide ((unhide HR).below hbl)
          clear hbl
          (try go_wp2_with fail)
          refine hKk.out _ _ ?_ (fun hHeld => ?_)
          · (try dsimp only)
            exact ⟨unhide HA, unhide HR⟩
          clear hKk Kk
          (try simp only [List.setIfInBounds_toArray, List.set_cons_zero, List.set_cons_succ])
          refine anyH_at #[true, true, true, true, true, false, false] (by kernel_rfl) ?_
          refine wpAnyH_take (i := 5) (oi := { dst := some 25, op := _, type := _, pos := _, after := _, guard := _ }) (v := ?vv5r6) rfl (by kernel_rfl) (by kernel_rfl) (by kernel_rfl) (fun _ _ _ h => h) (Or.inl ⟨by rfl, ?hy5r6⟩) (by assumption) ?rest5r6
          case hy5r6 => ((intro w hSw; (try dsimp only at hSw); go_simp) <;> with_reducible rfl)
          case rest5r6 =>
            (try simp only [Act.put, List.setIfInBounds_toArray, List.set_cons_zero, List.set_cons_succ])
            refine anyH_at #[true, true, true, true, true, true, false] (by kernel_rfl) ?_
            refine wpAnyH_take (i := 6) (oi := { dst := some 19, op := _, type := _, pos := _, after := _, guard := _ }) (v := ?vv6r6) rfl (by kernel_rfl) (by kernel_rfl) (by kernel_rfl) (fun _ _ _ h => h) (Or.inl ⟨by rfl, ?hy6r6⟩) (by assumption) ?rest6r6
            case hy6r6 => ((intro w hSw; (try dsimp only at hSw); go_simp) <;> with_reducible rfl)
            case rest6r6 =>
              (try simp only [Act.put, List.setIfInBounds_toArray, List.set_cons_zero, List.set_cons_succ])
              refine anyH_at #[true, true, true, true, true, true, true] (by kernel_rfl) ?_
              refine wpAnyH_done (by kernel_rfl) ?_ _
              clear hHeld
              obtain ⟨a0, a1, a2, a3, a4⟩ := unhide HA
              go_wp2_with fail
              clear a0 a1 a2 a3 a4
              have HB := hide (unhide HB).drew
              have HA := hide ((unhide HA).below ((Below.refl _ _).drew))
              have HR := hide (unhide HR).drew
              refine wp_region_held_drew (S := fun w' => (w'.cell? ⟨w1.heap.size, 0, none⟩ = some (.int .i64 e) ∧ w'.cell? ⟨w1.heap.size, 1, none⟩ = some (.int .i64 f) ∧ w'.cell? ⟨w1.heap.size, 2, none⟩ = some (.bool n) ∧ w'.cell? ⟨w1.heap.size, 3, none⟩ = some (.int .u64 xx) ∧ w'.cell? ⟨w1.heap.size, 4, none⟩ = some (.int .u64 yy)) ∧ Room W.heap.size 4 w') (by kernel_rfl) ?_ (fun hHeld => ?_)
              · (try dsimp only)
                exact ⟨unhide HA, unhide HR⟩
              refine anyH_at #[false, false, false, false, false, false, false, false, false] (by kernel_rfl) ?_
              refine wpAnyH_take (i := 0) (oi := { dst := some 52, op := _, type := _, pos := _, after := _, guard := _ }) (v := ?vv0r11) rfl (by kernel_rfl) (by kernel_rfl) (by kernel_rfl) (fun _ _ _ h => h) (Or.inl ⟨by rfl, ?hy0r11⟩) (by assumption) ?rest0r11
              case hy0r11 => ((intro w hSw; (try dsimp only at hSw); go_simp) <;> with_reducible rfl)
              case rest0r11 =>
                (try simp only [Act.put, List.setIfInBounds_toArray, List.set_cons_zero, List.set_cons_succ])
                refine anyH_at #[true, false, false, false, false, false, false, false, false] (by kernel_rfl) ?_
                refine wpAnyH_take (i := 1) (oi := { dst := some 53, op := _, type := _, pos := _, after := _, guard := _ }) (v := ?vv1r11) rfl (by kernel_rfl) (by kernel_rfl) (by kernel_rfl) (fun _ _ _ h => h) (Or.inl ⟨by rfl, ?hy1r11⟩) (by assumption) ?rest1r11
                case hy1r11 => ((intro w hSw; (try dsimp only at hSw); go_simp) <;> with_reducible rfl)
                case rest1r11 =>
                  (try simp only [Act.put, List.setIfInBounds_toArray, List.set_cons_zero, List.set_cons_succ])
                  refine anyH_at #[true, true, false, false, false, false, false, false, false] (by kernel_rfl) ?_
                  refine wpAnyH_take (i := 2) (oi := { dst := some 54, op := _, type := _, pos := _, after := _, guard := _ }) (v := ?vv2r11) rfl (by kernel_rfl) (by kernel_rfl) (by kernel_rfl) (fun _ _ _ h => h) (Or.inl ⟨by rfl, ?hy2r11⟩) (by assumption) ?rest2r11
                  case hy2r11 => ((intro w hSw; (try dsimp only at hSw); go_simp) <;> with_reducible rfl)
                  case rest2r11 =>
                    (try simp only [Act.put, List.setIfInBounds_toArray, List.set_cons_zero, List.set_cons_succ])
                    refine anyH_at #[true, true, true, false, false, false, false, false, false] (by kernel_rfl) ?_
                    refine wpAnyH_take (i := 3) (oi := { dst := some 55, op := _, type := _, pos := _, after := _, guard := _ }) (v := ?vv3r11) rfl (by kernel_rfl) (by kernel_rfl) (by kernel_rfl) (fun _ _ _ h => h) (Or.inl ⟨by rfl, ?hy3r11⟩) (by assumption) ?rest3r11
                    case hy3r11 => ((intro w hSw; (try dsimp only at hSw); go_simp) <;> with_reducible rfl)
                    case rest3r11 =>
                      (try simp only [Act.put, List.setIfInBounds_toArray, List.set_cons_zero, List.set_cons_succ])
                      refine anyH_at #[true, true, true, true, false, false, false, false, false] (by kernel_rfl) ?_
                      refine wpAnyH_take (i := 5) (oi := { dst := some 57, op := _, type := _, pos := _, after := _, guard := _ }) (v := ?vv5r11) rfl (by kernel_rfl) (by kernel_rfl) (by kernel_rfl) (fun _ _ _ h => h) (Or.inl ⟨by rfl, ?hy5r11⟩) (by assumption) ?rest5r11
                      case hy5r11 => ((intro w hSw; (try dsimp only at hSw); go_simp) <;> with_reducible rfl)
                      case rest5r11 =>
                        (try simp only [Act.put, List.setIfInBounds_toArray, List.set_cons_zero, List.set_cons_succ])
                        refine anyH_at #[true, true, true, true, false, true, false, false, false] (by kernel_rfl) ?_
                        refine wpAnyH_take (i := 6) (oi := { dst := some 58, op := _, type := _, pos := _, after := _, guard := _ }) (v := ?vv6r11) rfl (by kernel_rfl) (by kernel_rfl) (by kernel_rfl) (fun _ _ _ h => h) (Or.inl ⟨by rfl, ?hy6r11⟩) (by assumption) ?rest6r11
                        case hy6r11 => ((intro w hSw; (try dsimp only at hSw); go_simp) <;> with_reducible rfl)
                        case rest6r11 =>
                          (try simp only [Act.put, List.setIfInBounds_toArray, List.set_cons_zero, List.set_cons_succ])
                          refine anyH_at #[true, true, true, true, false, true, true, false, false] (by kernel_rfl) ?_
                          refine wpAnyH_ready (rs := [4]) (by kernel_rfl) (by simp) ?_
                          refine AllReadyH.cons (o := { dst := some 56, op := _, type := _, pos := _, after := _, guard := _ }) rfl (fun Kk hKk => ?_) AllReadyH.nil
                          go_simp
                          refine (least_any hs _).mono ?_
                          rintro _ w5 ⟨rfl, hbl⟩
                          have HB := hide (bthen (unhide HB) hbl)
                          have HA := hide ((unhide HA).below hbl)
                          have HR := hide ((unhide HR).below hbl)
                          clear hbl
                          (try go_wp2_with fail)
                          refine hKk.out _ _ ?_ (fun hHeld => ?_)
                          · (try dsimp only)
                            exact ⟨unhide HA, unhide HR⟩
                          clear hKk Kk
                          (try simp only [List.setIfInBounds_toArray, List.set_cons_zero, List.set_cons_succ])
                          refine anyH_at #[true, true, true, true, true, true, true, false, false] (by kernel_rfl) ?_
                          refine wpAnyH_take (i := 7) (oi := { dst := some 59, op := _, type := _, pos := _, after := _, guard := _ }) (v := ?vv7r11) rfl (by kernel_rfl) (by kernel_rfl) (by kernel_rfl) (fun _ _ _ h => h) (Or.inl ⟨by rfl, ?hy7r11⟩) (by assumption) ?rest7r11
                          case hy7r11 => ((intro w hSw; (try dsimp only at hSw); go_simp) <;> with_reducible rfl)
                          case rest7r11 =>
                            (try simp only [Act.put, List.setIfInBounds_toArray, List.set_cons_zero, List.set_cons_succ])
                            refine anyH_at #[true, true, true, true, true, true, true, true, false] (by kernel_rfl) ?_
                            refine wpAnyH_ready (rs := [8]) (by kernel_rfl) (by simp) ?_
                            refine AllReadyH.cons (o := { dst := none, op := _, type := _, pos := _, after := _, guard := _ }) rfl (fun Kk hKk => ?_) AllReadyH.nil
                            obtain ⟨⟨v0, c0⟩, f0⟩ := hHeld.2 0 (by omega)
                            obtain ⟨⟨v1, c1⟩, f1⟩ := hHeld.2 1 (by omega)
                            obtain ⟨⟨v2, c2⟩, f2⟩ := hHeld.2 2 (by omega)
                            obtain ⟨⟨v3, c3⟩, f3⟩ := hHeld.2 3 (by omega)
                            go_simp
                            refine hKk.out _ _ ?_ (fun hHeld => ?_)
                            · (try dsimp only)
                              exact ⟨At5.set (At5.set (At5.set (At5.set (unhide HA) (by omega) _ _) (by omega) _ _) (by omega) _ _) (by omega) _ _, (((hHeld.2.set _ _).set _ _).set _ _).set _ _⟩
                            clear hKk Kk
                            (try simp only [List.setIfInBounds_toArray, List.set_cons_zero, List.set_cons_succ])
                            refine anyH_at #[true, true, true, true, true, true, true, true, true] (by kernel_rfl) ?_
                            refine wpAnyH_done (by kernel_rfl) ?_ _
                            clear hHeld
                            go_wp2_with fail
                            exact bodyPost_ret (v := .agg #[.bool n, .int .i64 1, .int .i64 (1 - b - f), .int .u64 yy]) (by simp (maxDischargeDepth := 8) [results, Try.results18, go_sem, c0, c1, c2, c3]) rfl ⟨rfl, bset4 (unhide HB) _ _ _ _⟩

set_option maxRecDepth 100000 in
set_option maxHeartbeats 4000000 in
theorem open_nor {w e f P Q b : Int} (x xx yy : Int) (n : Bool) (hs : Sz e f P Q b) (W : World)
    (HT : Hid (∀ W, Calls Try.prog 25 #[.int .i64 w, .int .u64 x] W fun r W' => r = .returned (.agg #[.int .i64 e, .int .i64 f, .bool n, .int .u64 xx, .int .u64 yy]) ∧ Below W.heap.size W W')) (hf : (f != 0) = true) (h1 : (xx == Q - 1) = false) (h3 : (xx != 0) = true) (k1 : IntKind.i64.wrap xx = xx) (k2 : bits .or .u64 P yy = P + yy) (x0 : -5000 ≤ xx) (x1 : xx ≤ 5000) :
    Calls Try.prog 18 #[.int .i64 w, .int .u64 x] W fun r W' => r = .returned (.agg #[.bool n, .int .i64 1, .int .i64 (xx - b - f), .int .u64 (P + yy)]) ∧ Below W.heap.size W W' := by
  go_enter Try.func18, Try.ntmps18
  go_wp2_with fail
  refine (unhide HT _).mono ?_
  rintro _ w1 ⟨rfl, hbl⟩
  have HR := hide ((room4 hbl).alloc (.cells #[.int .i64 e, .int .i64 f, .bool n, .int .u64 xx, .int .u64 yy] 48))
  have HB := hide (balloc (bthen (below1 _ _) hbl) (.cells #[.int .i64 e, .int .i64 f, .bool n, .int .u64 xx, .int .u64 yy] 48))
  have HA : Hid (At5 w1.heap.size (.int .i64 e) (.int .i64 f) (.bool n) (.int .u64 xx) (.int .u64 yy) (w1.alloc (.cells #[.int .i64 e, .int .i64 f, .bool n, .int .u64 xx, .int .u64 yy] 48))) := by unfold Hid At5; simp [go_sem]
  have hz1 : W.heap.size < w1.heap.size := by have := hbl.size; simp at this; omega
  clear hbl HT
  go_wp2_with fail
  refine (known_any e f _).mono ?_
  rintro _ w2 ⟨rfl, hbl⟩
  have HB := hide (bthen (unhide HB) hbl)
  have HA := hide ((unhide HA).below hbl)
  have HR := hide ((unhide HR).below hbl)
  clear hbl
  obtain ⟨a0, a1, a2, a3, a4⟩ := unhide HA
  go_wp2_with fail
  refine (isNan_any n xx yy hs _).mono ?_
  rintro _ w3 ⟨rfl, hbl⟩
  clear a0 a1 a2 a3 a4
  have HB := hide (bthen (unhide HB) hbl)
  have HA := hide ((unhide HA).below hbl)
  have HR := hide ((unhide HR).below hbl)
  clear hbl
  rw [h1, Bool.false_and]
  go_wp2_with fail
  have HB := hide (unhide HB).drew
  have HA := hide ((unhide HA).below ((Below.refl _ _).drew))
  have HR := hide (unhide HR).drew
  refine wp_region_held_drew (S := fun w' => (w'.cell? ⟨w1.heap.size, 0, none⟩ = some (.int .i64 e) ∧ w'.cell? ⟨w1.heap.size, 1, none⟩ = some (.int .i64 f) ∧ w'.cell? ⟨w1.heap.size, 2, none⟩ = some (.bool n) ∧ w'.cell? ⟨w1.heap.size, 3, none⟩ = some (.int .u64 xx) ∧ w'.cell? ⟨w1.heap.size, 4, none⟩ = some (.int .u64 yy)) ∧ Room W.heap.size 4 w') (by kernel_rfl) ?_ (fun hHeld => ?_)
  · (try dsimp only)
    exact ⟨unhide HA, unhide HR⟩
  refine anyH_at #[false, false, false, false, false, false, false] (by kernel_rfl) ?_
  refine wpAnyH_take (i := 0) (oi := { dst := some 20, op := _, type := _, pos := _, after := _, guard := _ }) (v := ?vv0r6) rfl (by kernel_rfl) (by kernel_rfl) (by kernel_rfl) (fun _ _ _ h => h) (Or.inl ⟨by rfl, ?hy0r6⟩) (by assumption) ?rest0r6
  case hy0r6 => ((intro w hSw; (try dsimp only at hSw); go_simp) <;> with_reducible rfl)
  case rest0r6 =>
    (try simp only [Act.put, List.setIfInBounds_toArray, List.set_cons_zero, List.set_cons_succ])
    refine anyH_at #[true, false, false, false, false, false, false] (by kernel_rfl) ?_
    refine wpAnyH_take (i := 1) (oi := { dst := some 21, op := _, type := _, pos := _, after := _, guard := _ }) (v := ?vv1r6) rfl (by kernel_rfl) (by kernel_rfl) (by kernel_rfl) (fun _ _ _ h => h) (Or.inl ⟨by rfl, ?hy1r6⟩) (by assumption) ?rest1r6
    case hy1r6 => ((intro w hSw; (try dsimp only at hSw); go_simp) <;> with_reducible rfl)
    case rest1r6 =>
      (try simp only [Act.put, List.setIfInBounds_toArray, List.set_cons_zero, List.set_cons_succ])
      refine anyH_at #[true, true, false, false, false, false, false] (by kernel_rfl) ?_
      refine wpAnyH_take (i := 2) (oi := { dst := some 22, op := _, type := _, pos := _, after := _, guard := _ }) (v := ?vv2r6) rfl (by kernel_rfl) (by kernel_rfl) (by kernel_rfl) (fun _ _ _ h => h) (Or.inl ⟨by rfl, ?hy2r6⟩) (by assumption) ?rest2r6
      case hy2r6 => ((intro w hSw; (try dsimp only at hSw); go_simp) <;> with_reducible rfl)
      case rest2r6 =>
        (try simp only [Act.put, List.setIfInBounds_toArray, List.set_cons_zero, List.set_cons_succ])
        refine anyH_at #[true, true, true, false, false, false, false] (by kernel_rfl) ?_
        refine wpAnyH_take (i := 3) (oi := { dst := some 23, op := _, type := _, pos := _, after := _, guard := _ }) (v := ?vv3r6) rfl (by kernel_rfl) (by kernel_rfl) (by kernel_rfl) (fun _ _ _ h => h) (Or.inl ⟨by rfl, ?hy3r6⟩) (by assumption) ?rest3r6
        case hy3r6 => ((intro w hSw; (try dsimp only at hSw); go_simp) <;> with_reducible rfl)
        case rest3r6 =>
          (try simp only [Act.put, List.setIfInBounds_toArray, List.set_cons_zero, List.set_cons_succ])
          refine anyH_at #[true, true, true, true, false, false, false] (by kernel_rfl) ?_
          refine wpAnyH_ready (rs := [4]) (by kernel_rfl) (by simp) ?_
          refine AllReadyH.cons (o := { dst := some 24, op := _, type := _, pos := _, after := _, guard := _ }) rfl (fun Kk hKk => ?_) AllReadyH.nil
          go_simp
          refine (last_any hs _).mono ?_
          rintro _ w4 ⟨rfl, hbl⟩
          have HB := hide (bthen (unhide HB) hbl)
          have HA := hide ((unhide HA).below hbl)
          have HR := hide ((unhide HR).below hbl)
          clear hbl
          (try go_wp2_with fail)
          refine hKk.out _ _ ?_ (fun hHeld => ?_)
          · (try dsimp only)
            exact ⟨unhide HA, unhide HR⟩
          clear hKk Kk
          (try simp only [List.setIfInBounds_toArray, List.set_cons_zero, List.set_cons_succ])
          refine anyH_at #[true, true, true, true, true, false, false] (by kernel_rfl) ?_
          refine wpAnyH_take (i := 5) (oi := { dst := some 25, op := _, type := _, pos := _, after := _, guard := _ }) (v := ?vv5r6) rfl (by kernel_rfl) (by kernel_rfl) (by kernel_rfl) (fun _ _ _ h => h) (Or.inl ⟨by rfl, ?hy5r6⟩) (by assumption) ?rest5r6
          case hy5r6 => ((intro w hSw; (try dsimp only at hSw); go_simp) <;> with_reducible rfl)
          case rest5r6 =>
            (try simp only [Act.put, List.setIfInBounds_toArray, List.set_cons_zero, List.set_cons_succ])
            refine anyH_at #[true, true, true, true, true, true, false] (by kernel_rfl) ?_
            refine wpAnyH_take (i := 6) (oi := { dst := some 19, op := _, type := _, pos := _, after := _, guard := _ }) (v := ?vv6r6) rfl (by kernel_rfl) (by kernel_rfl) (by kernel_rfl) (fun _ _ _ h => h) (Or.inl ⟨by rfl, ?hy6r6⟩) (by assumption) ?rest6r6
            case hy6r6 => ((intro w hSw; (try dsimp only at hSw); go_simp) <;> with_reducible rfl)
            case rest6r6 =>
              (try simp only [Act.put, List.setIfInBounds_toArray, List.set_cons_zero, List.set_cons_succ])
              refine anyH_at #[true, true, true, true, true, true, true] (by kernel_rfl) ?_
              refine wpAnyH_done (by kernel_rfl) ?_ _
              clear hHeld
              obtain ⟨a0, a1, a2, a3, a4⟩ := unhide HA
              go_wp2_with fail
              clear a0 a1 a2 a3 a4
              have HB := hide (unhide HB).drew
              have HA := hide ((unhide HA).below ((Below.refl _ _).drew))
              have HR := hide (unhide HR).drew
              refine wp_region_held_drew (S := fun w' => (w'.cell? ⟨w1.heap.size, 0, none⟩ = some (.int .i64 e) ∧ w'.cell? ⟨w1.heap.size, 1, none⟩ = some (.int .i64 f) ∧ w'.cell? ⟨w1.heap.size, 2, none⟩ = some (.bool n) ∧ w'.cell? ⟨w1.heap.size, 3, none⟩ = some (.int .u64 xx) ∧ w'.cell? ⟨w1.heap.size, 4, none⟩ = some (.int .u64 yy)) ∧ Room W.heap.size 4 w') (by kernel_rfl) ?_ (fun hHeld => ?_)
              · (try dsimp only)
                exact ⟨unhide HA, unhide HR⟩
              refine anyH_at #[false, false, false, false, false, false, false, false, false, false, false, false, false, false, false, false] (by kernel_rfl) ?_
              refine wpAnyH_take (i := 0) (oi := { dst := some 33, op := _, type := _, pos := _, after := _, guard := _ }) (v := ?vv0r9) rfl (by kernel_rfl) (by kernel_rfl) (by kernel_rfl) (fun _ _ _ h => h) (Or.inl ⟨by rfl, ?hy0r9⟩) (by assumption) ?rest0r9
              case hy0r9 => ((intro w hSw; (try dsimp only at hSw); go_simp) <;> with_reducible rfl)
              case rest0r9 =>
                (try simp only [Act.put, List.setIfInBounds_toArray, List.set_cons_zero, List.set_cons_succ])
                refine anyH_at #[true, false, false, false, false, false, false, false, false, false, false, false, false, false, false, false] (by kernel_rfl) ?_
                refine wpAnyH_take (i := 1) (oi := { dst := some 34, op := _, type := _, pos := _, after := _, guard := _ }) (v := ?vv1r9) rfl (by kernel_rfl) (by kernel_rfl) (by kernel_rfl) (fun _ _ _ h => h) (Or.inl ⟨by rfl, ?hy1r9⟩) (by assumption) ?rest1r9
                case hy1r9 => ((intro w hSw; (try dsimp only at hSw); go_simp) <;> with_reducible rfl)
                case rest1r9 =>
                  (try simp only [Act.put, List.setIfInBounds_toArray, List.set_cons_zero, List.set_cons_succ])
                  refine anyH_at #[true, true, false, false, false, false, false, false, false, false, false, false, false, false, false, false] (by kernel_rfl) ?_
                  refine wpAnyH_take (i := 2) (oi := { dst := some 35, op := _, type := _, pos := _, after := _, guard := _ }) (v := ?vv2r9) rfl (by kernel_rfl) (by kernel_rfl) (by kernel_rfl) (fun _ _ _ h => h) (Or.inl ⟨by rfl, ?hy2r9⟩) (by assumption) ?rest2r9
                  case hy2r9 => ((intro w hSw; (try dsimp only at hSw); go_simp) <;> with_reducible rfl)
                  case rest2r9 =>
                    (try simp only [Act.put, List.setIfInBounds_toArray, List.set_cons_zero, List.set_cons_succ])
                    refine anyH_at #[true, true, true, false, false, false, false, false, false, false, false, false, false, false, false, false] (by kernel_rfl) ?_
                    refine wpAnyH_take (i := 3) (oi := { dst := some 36, op := _, type := _, pos := _, after := _, guard := _ }) (v := ?vv3r9) rfl (by kernel_rfl) (by kernel_rfl) (by kernel_rfl) (fun _ _ _ h => h) (Or.inl ⟨by rfl, ?hy3r9⟩) (by assumption) ?rest3r9
                    case hy3r9 => ((intro w hSw; (try dsimp only at hSw); go_simp) <;> with_reducible rfl)
                    case rest3r9 =>
                      (try simp only [Act.put, List.setIfInBounds_toArray, List.set_cons_zero, List.set_cons_succ])
                      refine anyH_at #[true, true, true, true, false, false, false, false, false, false, false, false, false, false, false, false] (by kernel_rfl) ?_
                      refine wpAnyH_take (i := 4) (oi := { dst := some 37, op := _, type := _, pos := _, after := _, guard := _ }) (v := ?vv4r9) rfl (by kernel_rfl) (by kernel_rfl) (by kernel_rfl) (fun _ _ _ h => h) (Or.inl ⟨by rfl, ?hy4r9⟩) (by assumption) ?rest4r9
                      case hy4r9 => ((intro w hSw; (try dsimp only at hSw); go_simp) <;> with_reducible rfl)
                      case rest4r9 =>
                        (try simp only [Act.put, List.setIfInBounds_toArray, List.set_cons_zero, List.set_cons_succ])
                        refine anyH_at #[true, true, true, true, true, false, false, false, false, false, false, false, false, false, false, false] (by kernel_rfl) ?_
                        refine wpAnyH_take (i := 5) (oi := { dst := some 38, op := _, type := _, pos := _, after := _, guard := _ }) (v := ?vv5r9) rfl (by kernel_rfl) (by kernel_rfl) (by kernel_rfl) (fun _ _ _ h => h) (Or.inl ⟨by rfl, ?hy5r9⟩) (by assumption) ?rest5r9
                        case hy5r9 => ((intro w hSw; (try dsimp only at hSw); go_simp) <;> with_reducible rfl)
                        case rest5r9 =>
                          (try simp only [Act.put, List.setIfInBounds_toArray, List.set_cons_zero, List.set_cons_succ])
                          refine anyH_at #[true, true, true, true, true, true, false, false, false, false, false, false, false, false, false, false] (by kernel_rfl) ?_
                          refine wpAnyH_take (i := 6) (oi := { dst := some 39, op := _, type := _, pos := _, after := _, guard := _ }) (v := ?vv6r9) rfl (by kernel_rfl) (by kernel_rfl) (by kernel_rfl) (fun _ _ _ h => h) (Or.inl ⟨by rfl, ?hy6r9⟩) (by assumption) ?rest6r9
                          case hy6r9 => ((intro w hSw; (try dsimp only at hSw); go_simp) <;> with_reducible rfl)
                          case rest6r9 =>
                            (try simp only [Act.put, List.setIfInBounds_toArray, List.set_cons_zero, List.set_cons_succ])
                            refine anyH_at #[true, true, true, true, true, true, true, false, false, false, false, false, false, false, false, false] (by kernel_rfl) ?_
                            refine wpAnyH_take (i := 8) (oi := { dst := some 41, op := _, type := _, pos := _, after := _, guard := _ }) (v := ?vv8r9) rfl (by kernel_rfl) (by kernel_rfl) (by kernel_rfl) (fun _ _ _ h => h) (Or.inl ⟨by rfl, ?hy8r9⟩) (by assumption) ?rest8r9
                            case hy8r9 => ((intro w hSw; (try dsimp only at hSw); go_simp) <;> with_reducible rfl)
                            case rest8r9 =>
                              (try simp only [Act.put, List.setIfInBounds_toArray, List.set_cons_zero, List.set_cons_succ])
                              refine anyH_at #[true, true, true, true, true, true, true, false, true, false, false, false, false, false, false, false] (by kernel_rfl) ?_
                              refine wpAnyH_take (i := 9) (oi := { dst := some 42, op := _, type := _, pos := _, after := _, guard := _ }) (v := ?vv9r9) rfl (by kernel_rfl) (by kernel_rfl) (by kernel_rfl) (fun _ _ _ h => h) (Or.inl ⟨by rfl, ?hy9r9⟩) (by assumption) ?rest9r9
                              case hy9r9 => ((intro w hSw; (try dsimp only at hSw); go_simp) <;> with_reducible rfl)
                              case rest9r9 =>
                                (try simp only [Act.put, List.setIfInBounds_toArray, List.set_cons_zero, List.set_cons_succ])
                                refine anyH_at #[true, true, true, true, true, true, true, false, true, true, false, false, false, false, false, false] (by kernel_rfl) ?_
                                refine wpAnyH_take (i := 11) (oi := { dst := some 44, op := _, type := _, pos := _, after := _, guard := _ }) (v := ?vv11r9) rfl (by kernel_rfl) (by kernel_rfl) (by kernel_rfl) (fun _ _ _ h => h) (Or.inl ⟨by rfl, ?hy11r9⟩) (by assumption) ?rest11r9
                                case hy11r9 => ((intro w hSw; (try dsimp only at hSw); go_simp) <;> with_reducible rfl)
                                case rest11r9 =>
                                  (try simp only [Act.put, List.setIfInBounds_toArray, List.set_cons_zero, List.set_cons_succ])
                                  refine anyH_at #[true, true, true, true, true, true, true, false, true, true, false, true, false, false, false, false] (by kernel_rfl) ?_
                                  refine wpAnyH_take (i := 12) (oi := { dst := some 45, op := _, type := _, pos := _, after := _, guard := _ }) (v := ?vv12r9) rfl (by kernel_rfl) (by kernel_rfl) (by kernel_rfl) (fun _ _ _ h => h) (Or.inl ⟨by rfl, ?hy12r9⟩) (by assumption) ?rest12r9
                                  case hy12r9 => ((intro w hSw; (try dsimp only at hSw); go_simp) <;> with_reducible rfl)
                                  case rest12r9 =>
                                    (try simp only [Act.put, List.setIfInBounds_toArray, List.set_cons_zero, List.set_cons_succ])
                                    refine anyH_at #[true, true, true, true, true, true, true, false, true, true, false, true, true, false, false, false] (by kernel_rfl) ?_
                                    refine wpAnyH_ready (rs := [7]) (by kernel_rfl) (by simp) ?_
                                    refine AllReadyH.cons (o := { dst := some 40, op := _, type := _, pos := _, after := _, guard := _ }) rfl (fun Kk hKk => ?_) AllReadyH.nil
                                    go_simp
                                    refine (power_any xx hs _ x0 x1).mono ?_
                                    rintro _ w5 ⟨rfl, hbl⟩
                                    have HB := hide (bthen (unhide HB) hbl)
                                    have HA := hide ((unhide HA).below hbl)
                                    have HR := hide ((unhide HR).below hbl)
                                    clear hbl
                                    (try go_wp2_with fail)
                                    refine hKk.out _ _ ?_ (fun hHeld => ?_)
                                    · (try dsimp only)
                                      exact ⟨unhide HA, unhide HR⟩
                                    clear hKk Kk
                                    (try simp only [List.setIfInBounds_toArray, List.set_cons_zero, List.set_cons_succ])
                                    refine anyH_at #[true, true, true, true, true, true, true, true, true, true, false, true, true, false, false, false] (by kernel_rfl) ?_
                                    refine wpAnyH_ready (rs := [10]) (by kernel_rfl) (by simp) ?_
                                    refine AllReadyH.cons (o := { dst := some 43, op := _, type := _, pos := _, after := _, guard := _ }) rfl (fun Kk hKk => ?_) AllReadyH.nil
                                    go_simp
                                    refine (one_any hs _).mono ?_
                                    rintro _ w6 ⟨rfl, hbl⟩
                                    have HB := hide (bthen (unhide HB) hbl)
                                    have HA := hide ((unhide HA).below hbl)
                                    have HR := hide ((unhide HR).below hbl)
                                    clear hbl
                                    (try go_wp2_with fail)
                                    refine hKk.out _ _ ?_ (fun hHeld => ?_)
                                    · (try dsimp only)
                                      exact ⟨unhide HA, unhide HR⟩
                                    clear hKk Kk
                                    (try simp only [List.setIfInBounds_toArray, List.set_cons_zero, List.set_cons_succ])
                                    refine anyH_at #[true, true, true, true, true, true, true, true, true, true, true, true, true, false, false, false] (by kernel_rfl) ?_
                                    refine wpAnyH_take (i := 13) (oi := { dst := some 46, op := _, type := _, pos := _, after := _, guard := _ }) (v := ?vv13r9) rfl (by kernel_rfl) (by kernel_rfl) (by kernel_rfl) (fun _ _ _ h => h) (Or.inl ⟨by rfl, ?hy13r9⟩) (by assumption) ?rest13r9
                                    case hy13r9 => ((intro w hSw; (try dsimp only at hSw); go_simp) <;> with_reducible rfl)
                                    case rest13r9 =>
                                      (try simp only [Act.put, List.setIfInBounds_toArray, List.set_cons_zero, List.set_cons_succ])
                                      refine anyH_at #[true, true, true, true, true, true, true, true, true, true, true, true, true, true, false, false] (by kernel_rfl) ?_
                                      refine wpAnyH_take (i := 14) (oi := { dst := some 47, op := _, type := _, pos := _, after := _, guard := _ }) (v := ?vv14r9) rfl (by kernel_rfl) (by kernel_rfl) (by kernel_rfl) (fun _ _ _ h => h) (Or.inl ⟨by rfl, ?hy14r9⟩) (by assumption) ?rest14r9
                                      case hy14r9 => ((intro w hSw; (try dsimp only at hSw); go_simp) <;> with_reducible rfl)
                                      case rest14r9 =>
                                        (try simp only [Act.put, List.setIfInBounds_toArray, List.set_cons_zero, List.set_cons_succ])
                                        refine anyH_at #[true, true, true, true, true, true, true, true, true, true, true, true, true, true, true, false] (by kernel_rfl) ?_
                                        refine wpAnyH_ready (rs := [15]) (by kernel_rfl) (by simp) ?_
                                        refine AllReadyH.cons (o := { dst := none, op := _, type := _, pos := _, after := _, guard := _ }) rfl (fun Kk hKk => ?_) AllReadyH.nil
                                        obtain ⟨⟨v0, c0⟩, f0⟩ := hHeld.2 0 (by omega)
                                        obtain ⟨⟨v1, c1⟩, f1⟩ := hHeld.2 1 (by omega)
                                        obtain ⟨⟨v2, c2⟩, f2⟩ := hHeld.2 2 (by omega)
                                        obtain ⟨⟨v3, c3⟩, f3⟩ := hHeld.2 3 (by omega)
                                        go_simp
                                        refine hKk.out _ _ ?_ (fun hHeld => ?_)
                                        · (try dsimp only)
                                          exact ⟨At5.set (At5.set (At5.set (At5.set (unhide HA) (by omega) _ _) (by omega) _ _) (by omega) _ _) (by omega) _ _, (((hHeld.2.set _ _).set _ _).set _ _).set _ _⟩
                                        clear hKk Kk
                                        (try simp only [List.setIfInBounds_toArray, List.set_cons_zero, List.set_cons_succ])
                                        refine anyH_at #[true, true, true, true, true, true, true, true, true, true, true, true, true, true, true, true] (by kernel_rfl) ?_
                                        refine wpAnyH_done (by kernel_rfl) ?_ _
                                        clear hHeld
                                        go_wp2_with fail
                                        exact bodyPost_ret (v := .agg #[.bool n, .int .i64 1, .int .i64 (xx - b - f), .int .u64 (P + yy)]) (by simp (maxDischargeDepth := 8) [results, Try.results18, go_sem, c0, c1, c2, c3]) rfl ⟨rfl, bset4 (unhide HB) _ _ _ _⟩

/-- What a float of these fields is taken apart into. -/
def Opened (f P Q b : Int) (n : Bool) (x y : Int) (N : Bool) (K X S : Int) : Prop :=
  (f = 0 ∧ N = false ∧ K = 0 ∧ X = 0 ∧ S = 0) ∨
  (f ≠ 0 ∧ x = Q - 1 ∧ y ≠ 0 ∧ N = false ∧ K = 3 ∧ X = 0 ∧ S = 0) ∨
  (f ≠ 0 ∧ x = Q - 1 ∧ y = 0 ∧ N = n ∧ K = 2 ∧ X = 0 ∧ S = 0) ∨
  (f ≠ 0 ∧ x ≠ Q - 1 ∧ x ≠ 0 ∧ N = n ∧ K = 1 ∧ X = x - b - f ∧ S = P + y) ∨
  (f ≠ 0 ∧ x ≠ Q - 1 ∧ x = 0 ∧ y ≠ 0 ∧ N = n ∧ K = 1 ∧ X = 1 - b - f ∧ S = y) ∨
  (f ≠ 0 ∧ x ≠ Q - 1 ∧ x = 0 ∧ y = 0 ∧ N = n ∧ K = 0 ∧ X = 0 ∧ S = 0)
theorem ne_t {a b : Int} (h : a ≠ b) : (a != b) = true := by simp [h]
theorem ne_f {a b : Int} (h : a = b) : (a != b) = false := by simp [h]
theorem eq_t {a b : Int} (h : a = b) : (a == b) = true := by simp [h]
theorem eq_f {a b : Int} (h : a ≠ b) : (a == b) = false := by simp [h]

theorem open_any {w e f P Q b : Int} (x : Int) {N : Bool} {K X S : Int} (h : Wd w e f P Q b) (W : World) (h0 : 0 ≤ x) (h1 : x < 18446744073709551616)
    (ho : Opened f P Q b (sg P Q x) (x / P % Q) (x % P) N K X S) :
    Calls Try.prog 18 #[.int .i64 w, .int .u64 x] W fun r W' => r = .returned (.agg #[.bool N, .int .i64 K, .int .i64 X, .int .u64 S]) ∧ Below W.heap.size W W' := by
  have HT := hide (fun W => take_any x h W h0 h1)
  obtain ⟨p1, p2, q1, q2⟩ := h.sz.pos
  obtain ⟨u, v⟩ := exp_in (x / P) q1
  obtain ⟨u', v'⟩ := exp_in x p1
  rcases ho with ⟨a, rfl, rfl, rfl, rfl⟩ | ⟨a, c, d, rfl, rfl, rfl, rfl⟩ | ⟨a, c, d, rfl, rfl, rfl, rfl⟩ | ⟨a, c, d, rfl, rfl, rfl, rfl⟩ | ⟨a, c, d, g, rfl, rfl, rfl, rfl⟩ | ⟨a, c, d, g, rfl, rfl, rfl, rfl⟩
  · exact open_no x _ _ _ h.sz W HT (ne_f a)
  · exact open_nan x _ _ _ h.sz W HT (ne_t a) (eq_t c) (ne_t d)
  · exact open_inf x _ _ _ h.sz W HT (ne_t a) (eq_t c) (ne_f d)
  · refine open_nor x _ _ _ h.sz W HT (ne_t a) (eq_f c) (ne_t d) (i64_id (by omega) (by omega)) ?_ (by omega) (by omega)
    rcases h.sz with ⟨_, rfl, rfl, rfl, _⟩ | ⟨_, rfl, rfl, rfl, _⟩ | ⟨_, rfl, rfl, rfl, _⟩
    · exact or_sum 23 _ _ (by omega) (by omega) (by decide) (by omega) (by omega) (by omega)
    · exact or_sum 52 _ _ (by omega) (by omega) (by decide) (by omega) (by omega) (by omega)
    · exact absurd rfl a
  · exact open_sub x _ _ _ h.sz W HT (ne_t a) (eq_f c) (ne_f d) (ne_t g)
  · exact open_zer x _ _ _ h.sz W HT (ne_t a) (eq_f c) (ne_f d) (ne_f g)

def At4 (b : Nat) (x y z u : Value) (w : World) : Prop := w.cell? ⟨b, 0, none⟩ = some x ∧ w.cell? ⟨b, 1, none⟩ = some y ∧ w.cell? ⟨b, 2, none⟩ = some z ∧ w.cell? ⟨b, 3, none⟩ = some u
theorem At4.below {b : Nat} {x y z u : Value} {w w' : World} (h : At4 b x y z u w) (hb : Below w.heap.size w w') : At4 b x y z u w' :=
  have hz := lt_of_cell h.1
  ⟨keep1 hb hz h.1, keep1 hb hz h.2.1, keep1 hb hz h.2.2.1, keep1 hb hz h.2.2.2⟩
theorem at4_new (w : World) (x y z u : Value) (t : TypeId) : At4 w.heap.size x y z u (w.alloc (.cells #[x, y, z, u] t)) := by unfold At4; simp [go_sem]

theorem kd_in {w e f P Q b : Int} (h : Kd w e f P Q b) : ((w != 32) = false) ∨ ((w != 32) = true ∧ (w != 64) = false) := by
  rcases h with h | h
  · exact Or.inl (ne_f h.1)
  · exact Or.inr ⟨ne_t (by omega), ne_f h.1⟩

end Go.Proofs.Yticbhdgamblmbaa
