/- QuoC. -/
import Derived.Test.YtcgnlpamfhdiiaaG07
import Derived.Test.YtcgnlpamfhdiiaaG09
import Derived.Test.YtcgnlpamfhdiiaaG17
namespace Go.Proofs.Ytcgnlpamfhdiiaa
open Go.RowKit
open Go.Proofs.Ytcgnlpamfhdiiaa.W

set_option maxRecDepth 100000 in
set_option maxHeartbeats 2000000 in
theorem isNeg_l {w K1 X1 S1 K2 X2 S2 : Int} {n1 n2 : Bool} (W : World) :
    Calls Try.prog 41 #[.agg #[.bool n1, .int .i64 K1, .int .i64 X1, .int .u64 S1, .bool n2, .int .i64 K2, .int .i64 X2, .int .u64 S2, .int .i64 w]] W fun r W' => r = .returned (.bool (n1 != n2)) ∧ Below W.heap.size W W' := by
  go_enter Try.func41, Try.ntmps41
  go_wp2_with fail
  go_ret
  exact ⟨rfl, below1 W (.cells #[.bool n1, .int .i64 K1, .int .i64 X1, .int .u64 S1, .bool n2, .int .i64 K2, .int .i64 X2, .int .u64 S2, .int .i64 w] 42)⟩
set_option maxRecDepth 100000 in
set_option maxHeartbeats 2000000 in
theorem isNone_same {w K1 X1 S1 K2 X2 S2 : Int} {n1 n2 : Bool} (W : World) (h : (K1 == K2) = true) :
    Calls Try.prog 39 #[.agg #[.bool n1, .int .i64 K1, .int .i64 X1, .int .u64 S1, .bool n2, .int .i64 K2, .int .i64 X2, .int .u64 S2, .int .i64 w]] W fun r W' => r = .returned (.bool (K1 != 1)) ∧ Below W.heap.size W W' := by
  go_enter Try.func39, Try.ntmps39
  go_wp2_with fail
  go_ret
  exact ⟨rfl, below1 W (.cells #[.bool n1, .int .i64 K1, .int .i64 X1, .int .u64 S1, .bool n2, .int .i64 K2, .int .i64 X2, .int .u64 S2, .int .i64 w] 42)⟩
set_option maxRecDepth 100000 in
set_option maxHeartbeats 2000000 in
theorem isNone_one {w K1 X1 S1 K2 X2 S2 : Int} {n1 n2 : Bool} (W : World) (h : (K1 == K2) = false) (h1 : (K1 == 3) = true) :
    Calls Try.prog 39 #[.agg #[.bool n1, .int .i64 K1, .int .i64 X1, .int .u64 S1, .bool n2, .int .i64 K2, .int .i64 X2, .int .u64 S2, .int .i64 w]] W fun r W' => r = .returned (.bool true) ∧ Below W.heap.size W W' := by
  go_enter Try.func39, Try.ntmps39
  go_wp2_with fail
  go_ret
  exact ⟨rfl, below1 W (.cells #[.bool n1, .int .i64 K1, .int .i64 X1, .int .u64 S1, .bool n2, .int .i64 K2, .int .i64 X2, .int .u64 S2, .int .i64 w] 42)⟩
set_option maxRecDepth 100000 in
set_option maxHeartbeats 2000000 in
theorem isNone_two {w K1 X1 S1 K2 X2 S2 : Int} {n1 n2 : Bool} (W : World) (h : (K1 == K2) = false) (h1 : (K1 == 3) = false) :
    Calls Try.prog 39 #[.agg #[.bool n1, .int .i64 K1, .int .i64 X1, .int .u64 S1, .bool n2, .int .i64 K2, .int .i64 X2, .int .u64 S2, .int .i64 w]] W fun r W' => r = .returned (.bool (K2 == 3)) ∧ Below W.heap.size W W' := by
  go_enter Try.func39, Try.ntmps39
  go_wp2_with fail
  go_ret
  exact ⟨rfl, below1 W (.cells #[.bool n1, .int .i64 K1, .int .i64 X1, .int .u64 S1, .bool n2, .int .i64 K2, .int .i64 X2, .int .u64 S2, .int .i64 w] 42)⟩
theorem room2_new (W : World) (v0 v1 : Value) (t : TypeId) : Room W.heap.size 2 (W.alloc (.cells #[v0, v1] t)) := by
  intro o ho
  match o, ho with
  | 0, _ | 1, _ => simp [go_sem]
theorem at2_set2 {b : Nat} {w : World} (h : Room b 2 w) (v0 v1 : Value) : At2 b v0 v1 ((w.setCell ⟨b, 0, none⟩ v0).setCell ⟨b, 1, none⟩ v1) := by
  obtain ⟨⟨u0, h0⟩, _⟩ := h 0 (by omega)
  obtain ⟨⟨u1, h1⟩, _⟩ := (h.set 0 v0) 1 (by omega)
  exact ⟨set_off _ (by omega) (World.cell?_setCell_same _ _ _ h0), World.cell?_setCell_same _ _ _ h1⟩
theorem Room.set2 {b : Nat} {w : World} (h : Room b 2 w) (v0 v1 : Value) : Room b 2 ((w.setCell ⟨b, 0, none⟩ v0).setCell ⟨b, 1, none⟩ v1) := (h.set _ _).set _ _
theorem bset2 {a b : World} {c : Nat} (h : Below a.heap.size a b) (hc : a.heap.size ≤ c) (v0 v1 : Value) : Below a.heap.size a ((b.setCell ⟨c, 0, none⟩ v0).setCell ⟨c, 1, none⟩ v1) := bset (bset h _ hc _ _) _ hc _ _
theorem At4.set2 {b c : Nat} {x y z u : Value} {w : World} (h : At4 b x y z u w) (hc : b ≠ c) (v0 v1 : Value) : At4 b x y z u ((w.setCell ⟨c, 0, none⟩ v0).setCell ⟨c, 1, none⟩ v1) := (h.set hc _ _).set hc _ _
set_option maxRecDepth 100000 in
set_option maxHeartbeats 2000000 in
theorem raised_l {K1 X1 S1 h l L U h' l' E : Int} {n1 : Bool} (W : World) (HO : Hid (∀ W, Calls Try.prog 45 #[.int .u64 S1] W fun r W' => r = .returned (.agg #[.int .u64 h, .int .u64 l]) ∧ Below W.heap.size W W')) (HL : Hid (∀ W, Calls Try.prog 58 #[.agg #[.int .u64 h, .int .u64 l]] W fun r W' => r = .returned (.int .i64 L) ∧ Below W.heap.size W W')) (ku : IntKind.i64.wrap (128 - L) = U)
    (HS : Hid (∀ W, Calls Try.prog 59 #[.agg #[.int .u64 h, .int .u64 l], .int .i64 U] W fun r W' => r = .returned (.agg #[.int .u64 h', .int .u64 l']) ∧ Below W.heap.size W W')) (kx : IntKind.i64.wrap (X1 - U) = E) :
    Calls Try.prog 42 #[.agg #[.bool n1, .int .i64 K1, .int .i64 X1, .int .u64 S1]] W fun r W' => r = .returned (.tuple #[.agg #[.int .u64 h', .int .u64 l'], .int .i64 E]) ∧ Below W.heap.size W W' := by
  go_enter Try.func42, Try.ntmps42
  go_wp2_with fail
  have HB := hide (below2 W (.cells #[.bool n1, .int .i64 K1, .int .i64 X1, .int .u64 S1] 39) (.cells #[.int .u64 0, .int .u64 0] 62))
  have HA := hide (at4_new2a W (.bool n1) (.int .i64 K1) (.int .i64 X1) (.int .u64 S1) 39 (.cells #[.int .u64 0, .int .u64 0] 62))
  have HR : Hid (Room (W.heap.size + 1) 2 ((W.alloc (.cells #[.bool n1, .int .i64 K1, .int .i64 X1, .int .u64 S1] 39)).alloc (.cells #[.int .u64 0, .int .u64 0] 62))) := by
    have := room2_new (W.alloc (.cells #[.bool n1, .int .i64 K1, .int .i64 X1, .int .u64 S1] 39)) (.int .u64 0) (.int .u64 0) 62
    rw [show (W.alloc (.cells #[.bool n1, .int .i64 K1, .int .i64 X1, .int .u64 S1] 39)).heap.size = W.heap.size + 1 by simp] at this
    exact this
  refine (unhide HO _).mono ?_
  rintro _ w1 ⟨rfl, hbl⟩
  have HB := hide (bthen (unhide HB) hbl)
  have HA := hide ((unhide HA).below hbl)
  have HR := hide ((unhide HR).below hbl)
  clear hbl
  obtain ⟨⟨v0, c0⟩, r0⟩ := (unhide HR) 0 (by omega)
  obtain ⟨⟨v1, c1⟩, r1⟩ := (unhide HR) 1 (by omega)
  go_wp2_with fail
  clear c0 c1 r0 r1 v0 v1
  have HB := hide (bset2 (unhide HB) (show W.heap.size ≤ W.heap.size + 1 by omega) (.int .u64 h) (.int .u64 l))
  have HA := hide ((unhide HA).set2 (show W.heap.size ≠ W.heap.size + 1 by omega) (.int .u64 h) (.int .u64 l))
  have H2 := hide (at2_set2 (unhide HR) (.int .u64 h) (.int .u64 l))
  have HR := hide ((unhide HR).set2 (.int .u64 h) (.int .u64 l))
  refine (unhide HL _).mono ?_
  rintro _ w2 ⟨rfl, hbl⟩
  have HB := hide (bthen (unhide HB) hbl)
  have HA := hide ((unhide HA).below hbl)
  have H2 := hide ((unhide H2).below hbl)
  have HR := hide ((unhide HR).below hbl)
  clear hbl
  go_wp2_with fail
  have HB := hide ((unhide HB).drew)
  have HA := hide ((unhide HA).below ((Below.refl _ _).drew))
  have H2 := hide ((unhide H2).below ((Below.refl _ _).drew))
  have HR := hide ((unhide HR).below ((Below.refl _ _).drew))
  obtain ⟨c0, c1, c2, c3⟩ := unhide HA
  obtain ⟨d0, d1⟩ := unhide H2
  go_region_with (first
    | (go_at_call 59; refine (unhide HS _).mono ?_; rintro e w8 ⟨rfl, hbl⟩; have HB8 := hide (bthen (unhide HB) hbl); have HR8 := hide ((unhide HR).below hbl); obtain ⟨e0, e1, e2, e3⟩ := (unhide HA).below hbl; obtain ⟨⟨v0, f0⟩, r0⟩ := (unhide HR8) 0 (by omega); obtain ⟨⟨v1, f1⟩, r1⟩ := (unhide HR8) 1 (by omega); clear hbl))
  all_goals
    go_wp2_with fail
    exact bodyPost_ret (v := .tuple #[.agg #[.int .u64 h', .int .u64 l'], .int .i64 E]) (by simp (maxDischargeDepth := 8) [results, Try.results42, go_sem, f0, f1]) rfl ⟨rfl, bset2 (unhide HB8) (show W.heap.size ≤ W.heap.size + 1 by omega) _ _⟩
set_option maxRecDepth 100000 in
set_option maxHeartbeats 2000000 in
theorem into_l {K2 X2 S2 h l h' l' t e : Int} {n2 : Bool} (W : World) (HD : Hid (∀ W, Calls Try.prog 60 #[.agg #[.int .u64 h, .int .u64 l], .int .u64 S2] W fun r W' => r = .returned (.tuple #[.agg #[.int .u64 h', .int .u64 l'], .int .u64 t, .int .i64 e]) ∧ Below W.heap.size W W')) :
    Calls Try.prog 43 #[.agg #[.bool n2, .int .i64 K2, .int .i64 X2, .int .u64 S2], .agg #[.int .u64 h, .int .u64 l]] W fun r' W' => r' = .returned (.tuple #[.agg #[.int .u64 h', .int .u64 l'], .bool (t != 0)]) ∧ Below W.heap.size W W' := by
  go_enter Try.func43, Try.ntmps43
  go_wp2_with fail
  have HB : Hid (Below W.heap.size W (((W.alloc (.cells #[.bool n2, .int .i64 K2, .int .i64 X2, .int .u64 S2] 40)).alloc (.cells #[.int .u64 h, .int .u64 l] 62)).alloc (.cells #[.int .u64 0, .int .u64 0] 62))) := balloc (below2 W (.cells #[.bool n2, .int .i64 K2, .int .i64 X2, .int .u64 S2] 40) (.cells #[.int .u64 h, .int .u64 l] 62)) _
  have HR : Hid (Room (W.heap.size + 1 + 1) 2 (((W.alloc (.cells #[.bool n2, .int .i64 K2, .int .i64 X2, .int .u64 S2] 40)).alloc (.cells #[.int .u64 h, .int .u64 l] 62)).alloc (.cells #[.int .u64 0, .int .u64 0] 62))) := by
    have := room2_new ((W.alloc (.cells #[.bool n2, .int .i64 K2, .int .i64 X2, .int .u64 S2] 40)).alloc (.cells #[.int .u64 h, .int .u64 l] 62)) (.int .u64 0) (.int .u64 0) 62
    rw [show ((W.alloc (.cells #[.bool n2, .int .i64 K2, .int .i64 X2, .int .u64 S2] 40)).alloc (.cells #[.int .u64 h, .int .u64 l] 62)).heap.size = W.heap.size + 1 + 1 by simp] at this
    exact this
  refine (unhide HD _).mono ?_
  rintro _ w1 ⟨rfl, hbl⟩
  have HB := hide (bthen (unhide HB) hbl)
  have HR := hide ((unhide HR).below hbl)
  clear hbl
  obtain ⟨⟨v0, c0⟩, r0⟩ := (unhide HR) 0 (by omega)
  obtain ⟨⟨v1, c1⟩, r1⟩ := (unhide HR) 1 (by omega)
  go_wp2_with fail
  exact bodyPost_ret (v := .tuple #[.agg #[.int .u64 h', .int .u64 l'], .bool (t != 0)]) (by simp (maxDischargeDepth := 8) [results, Try.results43, go_sem, c0, c1]) rfl ⟨rfl, bset2 (bset2 (unhide HB) (show W.heap.size ≤ W.heap.size + 1 + 1 by omega) _ _) (show W.heap.size ≤ W.heap.size + 1 + 1 by omega) _ _⟩
set_option maxRecDepth 100000 in
set_option maxHeartbeats 2000000 in
theorem nearestQ_nan {w K1 X1 S1 K2 X2 S2 V : Int} {n1 n2 : Bool} (W : World) (HN : Hid (∀ W, Calls Try.prog 39 #[.agg #[.bool n1, .int .i64 K1, .int .i64 X1, .int .u64 S1, .bool n2, .int .i64 K2, .int .i64 X2, .int .u64 S2, .int .i64 w]] W fun r W' => r = .returned (.bool true) ∧ Below W.heap.size W W')) (HC : Hid (∀ W, Calls Try.prog 16 #[.int .i64 w] W fun r W' => r = .returned (.int .u64 V) ∧ Below W.heap.size W W')) :
    Calls Try.prog 20 #[.agg #[.bool n1, .int .i64 K1, .int .i64 X1, .int .u64 S1, .bool n2, .int .i64 K2, .int .i64 X2, .int .u64 S2, .int .i64 w]] W fun r W' => r = .returned (.int .u64 V) ∧ Below W.heap.size W W' := by
  go_enter Try.func20, Try.ntmps20
  go_wp2_with fail
  have HB := hide (below1 W (.cells #[.bool n1, .int .i64 K1, .int .i64 X1, .int .u64 S1, .bool n2, .int .i64 K2, .int .i64 X2, .int .u64 S2, .int .i64 w] 42))
  have HA := hide (at9_new W (.bool n1) (.int .i64 K1) (.int .i64 X1) (.int .u64 S1) (.bool n2) (.int .i64 K2) (.int .i64 X2) (.int .u64 S2) (.int .i64 w) 42)
  refine (unhide HN _).mono ?_
  rintro _ w1 ⟨rfl, hbl⟩
  have HB := hide (bthen (unhide HB) hbl)
  have HA := hide ((unhide HA).below hbl)
  clear hbl
  obtain ⟨c0, c1, c2, c3, c4, c5, c6, c7, c8⟩ := unhide HA
  go_wp2_with fail
  clear c0 c1 c2 c3 c4 c5 c6 c7 c8
  refine (unhide HC _).mono ?_
  rintro _ w2 ⟨rfl, hbl⟩
  have HB := hide (bthen (unhide HB) hbl)
  have HA := hide ((unhide HA).below hbl)
  clear hbl
  go_wp2_with fail
  go_ret
  exact ⟨rfl, unhide HB⟩
set_option maxRecDepth 100000 in
set_option maxHeartbeats 2000000 in
theorem nearestQ_i1 {w K1 X1 S1 K2 X2 S2 V : Int} {n1 n2 : Bool} (W : World) (HN : Hid (∀ W, Calls Try.prog 39 #[.agg #[.bool n1, .int .i64 K1, .int .i64 X1, .int .u64 S1, .bool n2, .int .i64 K2, .int .i64 X2, .int .u64 S2, .int .i64 w]] W fun r W' => r = .returned (.bool false) ∧ Below W.heap.size W W')) (HG : Hid (∀ W, Calls Try.prog 41 #[.agg #[.bool n1, .int .i64 K1, .int .i64 X1, .int .u64 S1, .bool n2, .int .i64 K2, .int .i64 X2, .int .u64 S2, .int .i64 w]] W fun r W' => r = .returned (.bool (n1 != n2)) ∧ Below W.heap.size W W')) (a2 : (K1 == 2) = true) (HC : Hid (∀ W, Calls Try.prog 40 #[.int .i64 w, .bool (n1 != n2)] W fun r W' => r = .returned (.int .u64 V) ∧ Below W.heap.size W W')) :
    Calls Try.prog 20 #[.agg #[.bool n1, .int .i64 K1, .int .i64 X1, .int .u64 S1, .bool n2, .int .i64 K2, .int .i64 X2, .int .u64 S2, .int .i64 w]] W fun r W' => r = .returned (.int .u64 V) ∧ Below W.heap.size W W' := by
  go_enter Try.func20, Try.ntmps20
  go_wp2_with fail
  have HB := hide (below1 W (.cells #[.bool n1, .int .i64 K1, .int .i64 X1, .int .u64 S1, .bool n2, .int .i64 K2, .int .i64 X2, .int .u64 S2, .int .i64 w] 42))
  have HA := hide (at9_new W (.bool n1) (.int .i64 K1) (.int .i64 X1) (.int .u64 S1) (.bool n2) (.int .i64 K2) (.int .i64 X2) (.int .u64 S2) (.int .i64 w) 42)
  refine (unhide HN _).mono ?_
  rintro _ w1 ⟨rfl, hbl⟩
  have HB := hide (bthen (unhide HB) hbl)
  have HA := hide ((unhide HA).below hbl)
  clear hbl
  obtain ⟨c0, c1, c2, c3, c4, c5, c6, c7, c8⟩ := unhide HA
  go_wp2_with fail
  clear c0 c1 c2 c3 c4 c5 c6 c7 c8
  have HB := hide ((unhide HB).drew)
  have HA := hide ((unhide HA).below ((Below.refl _ _).drew))
  refine wp_region_held_drew (S := fun w' => (w'.cell? ⟨W.heap.size, 0, none⟩ = some (.bool n1) ∧ w'.cell? ⟨W.heap.size, 1, none⟩ = some (.int .i64 K1) ∧ w'.cell? ⟨W.heap.size, 2, none⟩ = some (.int .i64 X1) ∧ w'.cell? ⟨W.heap.size, 3, none⟩ = some (.int .u64 S1) ∧ w'.cell? ⟨W.heap.size, 4, none⟩ = some (.bool n2) ∧ w'.cell? ⟨W.heap.size, 5, none⟩ = some (.int .i64 K2) ∧ w'.cell? ⟨W.heap.size, 6, none⟩ = some (.int .i64 X2) ∧ w'.cell? ⟨W.heap.size, 7, none⟩ = some (.int .u64 S2) ∧ w'.cell? ⟨W.heap.size, 8, none⟩ = some (.int .i64 w))) (by kernel_rfl) ?_ (fun hHeld => ?_)
  · (try dsimp only)
    exact unhide HA
  refine anyH_at #[false, false, false, false, false, false] (by kernel_rfl) ?_
  refine wpAnyH_take (i := 0) (oi := { dst := some 26, op := _, type := _, pos := _, after := _, guard := _ }) (v := ?vv0) rfl (by kernel_rfl) (by kernel_rfl) (by kernel_rfl) (fun _ _ _ h => h) (Or.inl ⟨by rfl, ?hy0⟩) (by assumption) ?rest0
  case hy0 => ((intro w hSw; (try dsimp only at hSw); go_simp) <;> with_reducible rfl)
  case rest0 =>
    (try simp only [Act.put, List.setIfInBounds_toArray, List.set_cons_zero, List.set_cons_succ])
    refine anyH_at #[true, false, false, false, false, false] (by kernel_rfl) ?_
    refine wpAnyH_take (i := 1) (oi := { dst := some 27, op := _, type := _, pos := _, after := _, guard := _ }) (v := ?vv1) rfl (by kernel_rfl) (by kernel_rfl) (by kernel_rfl) (fun _ _ _ h => h) (Or.inl ⟨by rfl, ?hy1⟩) (by assumption) ?rest1
    case hy1 => ((intro w hSw; (try dsimp only at hSw); go_simp) <;> with_reducible rfl)
    case rest1 =>
      (try simp only [Act.put, List.setIfInBounds_toArray, List.set_cons_zero, List.set_cons_succ])
      refine anyH_at #[true, true, false, false, false, false] (by kernel_rfl) ?_
      refine wpAnyH_take (i := 2) (oi := { dst := some 28, op := _, type := _, pos := _, after := _, guard := _ }) (v := ?vv2) rfl (by kernel_rfl) (by kernel_rfl) (by kernel_rfl) (fun _ _ _ h => h) (Or.inl ⟨by rfl, ?hy2⟩) (by assumption) ?rest2
      case hy2 => ((intro w hSw; (try dsimp only at hSw); go_simp) <;> with_reducible rfl)
      case rest2 =>
        (try simp only [Act.put, List.setIfInBounds_toArray, List.set_cons_zero, List.set_cons_succ])
        refine anyH_at #[true, true, true, false, false, false] (by kernel_rfl) ?_
        refine wpAnyH_ready (rs := [3]) (by kernel_rfl) (by simp) ?_
        refine AllReadyH.cons (o := { dst := some 29, op := _, type := _, pos := _, after := _, guard := _ }) rfl (fun Kk hKk => ?_) AllReadyH.nil
        go_simp
        refine (unhide HG _).mono ?_
        rintro _ w2 ⟨rfl, hbl⟩
        have HB := hide (bthen (unhide HB) hbl)
        have HA := hide ((unhide HA).below hbl)
        clear hbl
        (try go_wp2_with fail)
        refine hKk.out _ _ ?_ (fun hHeld => ?_)
        · (try dsimp only)
          exact unhide HA
        clear hKk Kk
        (try simp only [List.setIfInBounds_toArray, List.set_cons_zero, List.set_cons_succ])
        refine anyH_at #[true, true, true, true, false, false] (by kernel_rfl) ?_
        refine wpAnyH_ready (rs := [4]) (by kernel_rfl) (by simp) ?_
        refine AllReadyH.cons (o := { dst := some 30, op := _, type := _, pos := _, after := _, guard := _ }) rfl (fun Kk hKk => ?_) AllReadyH.nil
        go_simp
        refine (unhide HC _).mono ?_
        rintro _ w3 ⟨rfl, hbl⟩
        have HB := hide (bthen (unhide HB) hbl)
        have HA := hide ((unhide HA).below hbl)
        clear hbl
        (try go_wp2_with fail)
        refine hKk.out _ _ ?_ (fun hHeld => ?_)
        · (try dsimp only)
          exact unhide HA
        clear hKk Kk
        (try simp only [List.setIfInBounds_toArray, List.set_cons_zero, List.set_cons_succ])
        refine anyH_at #[true, true, true, true, true, false] (by kernel_rfl) ?_
        refine wpAnyH_take (i := 5) (oi := { dst := some 2, op := _, type := _, pos := _, after := _, guard := _ }) (v := ?vv5) rfl (by kernel_rfl) (by kernel_rfl) (by kernel_rfl) (fun _ _ _ h => h) (Or.inl ⟨by rfl, ?hy5⟩) (by assumption) ?rest5
        case hy5 => ((intro w hSw; (try dsimp only at hSw); go_simp) <;> with_reducible rfl)
        case rest5 =>
          (try simp only [Act.put, List.setIfInBounds_toArray, List.set_cons_zero, List.set_cons_succ])
          refine anyH_at #[true, true, true, true, true, true] (by kernel_rfl) ?_
          refine wpAnyH_done (by kernel_rfl) ?_ _
          go_wp2
          go_ret
          exact ⟨rfl, unhide HB⟩
set_option maxRecDepth 100000 in
set_option maxHeartbeats 2000000 in
theorem nearestQ_i2 {w K1 X1 S1 K2 X2 S2 V : Int} {n1 n2 : Bool} (W : World) (HN : Hid (∀ W, Calls Try.prog 39 #[.agg #[.bool n1, .int .i64 K1, .int .i64 X1, .int .u64 S1, .bool n2, .int .i64 K2, .int .i64 X2, .int .u64 S2, .int .i64 w]] W fun r W' => r = .returned (.bool false) ∧ Below W.heap.size W W')) (HG : Hid (∀ W, Calls Try.prog 41 #[.agg #[.bool n1, .int .i64 K1, .int .i64 X1, .int .u64 S1, .bool n2, .int .i64 K2, .int .i64 X2, .int .u64 S2, .int .i64 w]] W fun r W' => r = .returned (.bool (n1 != n2)) ∧ Below W.heap.size W W')) (a2 : (K1 == 2) = false) (b0 : (K2 == 0) = true) (HC : Hid (∀ W, Calls Try.prog 40 #[.int .i64 w, .bool (n1 != n2)] W fun r W' => r = .returned (.int .u64 V) ∧ Below W.heap.size W W')) :
    Calls Try.prog 20 #[.agg #[.bool n1, .int .i64 K1, .int .i64 X1, .int .u64 S1, .bool n2, .int .i64 K2, .int .i64 X2, .int .u64 S2, .int .i64 w]] W fun r W' => r = .returned (.int .u64 V) ∧ Below W.heap.size W W' := by
  go_enter Try.func20, Try.ntmps20
  go_wp2_with fail
  have HB := hide (below1 W (.cells #[.bool n1, .int .i64 K1, .int .i64 X1, .int .u64 S1, .bool n2, .int .i64 K2, .int .i64 X2, .int .u64 S2, .int .i64 w] 42))
  have HA := hide (at9_new W (.bool n1) (.int .i64 K1) (.int .i64 X1) (.int .u64 S1) (.bool n2) (.int .i64 K2) (.int .i64 X2) (.int .u64 S2) (.int .i64 w) 42)
  refine (unhide HN _).mono ?_
  rintro _ w1 ⟨rfl, hbl⟩
  have HB := hide (bthen (unhide HB) hbl)
  have HA := hide ((unhide HA).below hbl)
  clear hbl
  obtain ⟨c0, c1, c2, c3, c4, c5, c6, c7, c8⟩ := unhide HA
  go_wp2_with fail
  clear c0 c1 c2 c3 c4 c5 c6 c7 c8
  have HB := hide ((unhide HB).drew)
  have HA := hide ((unhide HA).below ((Below.refl _ _).drew))
  refine wp_region_held_drew (S := fun w' => (w'.cell? ⟨W.heap.size, 0, none⟩ = some (.bool n1) ∧ w'.cell? ⟨W.heap.size, 1, none⟩ = some (.int .i64 K1) ∧ w'.cell? ⟨W.heap.size, 2, none⟩ = some (.int .i64 X1) ∧ w'.cell? ⟨W.heap.size, 3, none⟩ = some (.int .u64 S1) ∧ w'.cell? ⟨W.heap.size, 4, none⟩ = some (.bool n2) ∧ w'.cell? ⟨W.heap.size, 5, none⟩ = some (.int .i64 K2) ∧ w'.cell? ⟨W.heap.size, 6, none⟩ = some (.int .i64 X2) ∧ w'.cell? ⟨W.heap.size, 7, none⟩ = some (.int .u64 S2) ∧ w'.cell? ⟨W.heap.size, 8, none⟩ = some (.int .i64 w))) (by kernel_rfl) ?_ (fun hHeld => ?_)
  · (try dsimp only)
    exact unhide HA
  refine anyH_at #[false, false, false, false, false, false] (by kernel_rfl) ?_
  refine wpAnyH_take (i := 0) (oi := { dst := some 26, op := _, type := _, pos := _, after := _, guard := _ }) (v := ?vv0) rfl (by kernel_rfl) (by kernel_rfl) (by kernel_rfl) (fun _ _ _ h => h) (Or.inl ⟨by rfl, ?hy0⟩) (by assumption) ?rest0
  case hy0 => ((intro w hSw; (try dsimp only at hSw); go_simp) <;> with_reducible rfl)
  case rest0 =>
    (try simp only [Act.put, List.setIfInBounds_toArray, List.set_cons_zero, List.set_cons_succ])
    refine anyH_at #[true, false, false, false, false, false] (by kernel_rfl) ?_
    refine wpAnyH_take (i := 1) (oi := { dst := some 27, op := _, type := _, pos := _, after := _, guard := _ }) (v := ?vv1) rfl (by kernel_rfl) (by kernel_rfl) (by kernel_rfl) (fun _ _ _ h => h) (Or.inl ⟨by rfl, ?hy1⟩) (by assumption) ?rest1
    case hy1 => ((intro w hSw; (try dsimp only at hSw); go_simp) <;> with_reducible rfl)
    case rest1 =>
      (try simp only [Act.put, List.setIfInBounds_toArray, List.set_cons_zero, List.set_cons_succ])
      refine anyH_at #[true, true, false, false, false, false] (by kernel_rfl) ?_
      refine wpAnyH_take (i := 2) (oi := { dst := some 28, op := _, type := _, pos := _, after := _, guard := _ }) (v := ?vv2) rfl (by kernel_rfl) (by kernel_rfl) (by kernel_rfl) (fun _ _ _ h => h) (Or.inl ⟨by rfl, ?hy2⟩) (by assumption) ?rest2
      case hy2 => ((intro w hSw; (try dsimp only at hSw); go_simp) <;> with_reducible rfl)
      case rest2 =>
        (try simp only [Act.put, List.setIfInBounds_toArray, List.set_cons_zero, List.set_cons_succ])
        refine anyH_at #[true, true, true, false, false, false] (by kernel_rfl) ?_
        refine wpAnyH_ready (rs := [3]) (by kernel_rfl) (by simp) ?_
        refine AllReadyH.cons (o := { dst := some 29, op := _, type := _, pos := _, after := _, guard := _ }) rfl (fun Kk hKk => ?_) AllReadyH.nil
        go_simp
        refine (unhide HG _).mono ?_
        rintro _ w2 ⟨rfl, hbl⟩
        have HB := hide (bthen (unhide HB) hbl)
        have HA := hide ((unhide HA).below hbl)
        clear hbl
        (try go_wp2_with fail)
        refine hKk.out _ _ ?_ (fun hHeld => ?_)
        · (try dsimp only)
          exact unhide HA
        clear hKk Kk
        (try simp only [List.setIfInBounds_toArray, List.set_cons_zero, List.set_cons_succ])
        refine anyH_at #[true, true, true, true, false, false] (by kernel_rfl) ?_
        refine wpAnyH_ready (rs := [4]) (by kernel_rfl) (by simp) ?_
        refine AllReadyH.cons (o := { dst := some 30, op := _, type := _, pos := _, after := _, guard := _ }) rfl (fun Kk hKk => ?_) AllReadyH.nil
        go_simp
        refine (unhide HC _).mono ?_
        rintro _ w3 ⟨rfl, hbl⟩
        have HB := hide (bthen (unhide HB) hbl)
        have HA := hide ((unhide HA).below hbl)
        clear hbl
        (try go_wp2_with fail)
        refine hKk.out _ _ ?_ (fun hHeld => ?_)
        · (try dsimp only)
          exact unhide HA
        clear hKk Kk
        (try simp only [List.setIfInBounds_toArray, List.set_cons_zero, List.set_cons_succ])
        refine anyH_at #[true, true, true, true, true, false] (by kernel_rfl) ?_
        refine wpAnyH_take (i := 5) (oi := { dst := some 2, op := _, type := _, pos := _, after := _, guard := _ }) (v := ?vv5) rfl (by kernel_rfl) (by kernel_rfl) (by kernel_rfl) (fun _ _ _ h => h) (Or.inl ⟨by rfl, ?hy5⟩) (by assumption) ?rest5
        case hy5 => ((intro w hSw; (try dsimp only at hSw); go_simp) <;> with_reducible rfl)
        case rest5 =>
          (try simp only [Act.put, List.setIfInBounds_toArray, List.set_cons_zero, List.set_cons_succ])
          refine anyH_at #[true, true, true, true, true, true] (by kernel_rfl) ?_
          refine wpAnyH_done (by kernel_rfl) ?_ _
          go_wp2
          go_ret
          exact ⟨rfl, unhide HB⟩
set_option maxRecDepth 100000 in
set_option maxHeartbeats 2000000 in
theorem nearestQ_z1 {w K1 X1 S1 K2 X2 S2 V : Int} {n1 n2 : Bool} (W : World) (HN : Hid (∀ W, Calls Try.prog 39 #[.agg #[.bool n1, .int .i64 K1, .int .i64 X1, .int .u64 S1, .bool n2, .int .i64 K2, .int .i64 X2, .int .u64 S2, .int .i64 w]] W fun r W' => r = .returned (.bool false) ∧ Below W.heap.size W W')) (HG : Hid (∀ W, Calls Try.prog 41 #[.agg #[.bool n1, .int .i64 K1, .int .i64 X1, .int .u64 S1, .bool n2, .int .i64 K2, .int .i64 X2, .int .u64 S2, .int .i64 w]] W fun r W' => r = .returned (.bool (n1 != n2)) ∧ Below W.heap.size W W')) (a2 : (K1 == 2) = false) (b0 : (K2 == 0) = false) (a0 : (K1 == 0) = true) (HC : Hid (∀ W, Calls Try.prog 12 #[.int .i64 w, .bool (n1 != n2)] W fun r W' => r = .returned (.int .u64 V) ∧ Below W.heap.size W W')) :
    Calls Try.prog 20 #[.agg #[.bool n1, .int .i64 K1, .int .i64 X1, .int .u64 S1, .bool n2, .int .i64 K2, .int .i64 X2, .int .u64 S2, .int .i64 w]] W fun r W' => r = .returned (.int .u64 V) ∧ Below W.heap.size W W' := by
  go_enter Try.func20, Try.ntmps20
  go_wp2_with fail
  have HB := hide (below1 W (.cells #[.bool n1, .int .i64 K1, .int .i64 X1, .int .u64 S1, .bool n2, .int .i64 K2, .int .i64 X2, .int .u64 S2, .int .i64 w] 42))
  have HA := hide (at9_new W (.bool n1) (.int .i64 K1) (.int .i64 X1) (.int .u64 S1) (.bool n2) (.int .i64 K2) (.int .i64 X2) (.int .u64 S2) (.int .i64 w) 42)
  refine (unhide HN _).mono ?_
  rintro _ w1 ⟨rfl, hbl⟩
  have HB := hide (bthen (unhide HB) hbl)
  have HA := hide ((unhide HA).below hbl)
  clear hbl
  obtain ⟨c0, c1, c2, c3, c4, c5, c6, c7, c8⟩ := unhide HA
  go_wp2_with fail
  clear c0 c1 c2 c3 c4 c5 c6 c7 c8
  have HB := hide ((unhide HB).drew)
  have HA := hide ((unhide HA).below ((Below.refl _ _).drew))
  refine wp_region_held_drew (S := fun w' => (w'.cell? ⟨W.heap.size, 0, none⟩ = some (.bool n1) ∧ w'.cell? ⟨W.heap.size, 1, none⟩ = some (.int .i64 K1) ∧ w'.cell? ⟨W.heap.size, 2, none⟩ = some (.int .i64 X1) ∧ w'.cell? ⟨W.heap.size, 3, none⟩ = some (.int .u64 S1) ∧ w'.cell? ⟨W.heap.size, 4, none⟩ = some (.bool n2) ∧ w'.cell? ⟨W.heap.size, 5, none⟩ = some (.int .i64 K2) ∧ w'.cell? ⟨W.heap.size, 6, none⟩ = some (.int .i64 X2) ∧ w'.cell? ⟨W.heap.size, 7, none⟩ = some (.int .u64 S2) ∧ w'.cell? ⟨W.heap.size, 8, none⟩ = some (.int .i64 w))) (by kernel_rfl) ?_ (fun hHeld => ?_)
  · (try dsimp only)
    exact unhide HA
  refine anyH_at #[false, false, false, false, false, false] (by kernel_rfl) ?_
  refine wpAnyH_take (i := 0) (oi := { dst := some 44, op := _, type := _, pos := _, after := _, guard := _ }) (v := ?vv0) rfl (by kernel_rfl) (by kernel_rfl) (by kernel_rfl) (fun _ _ _ h => h) (Or.inl ⟨by rfl, ?hy0⟩) (by assumption) ?rest0
  case hy0 => ((intro w hSw; (try dsimp only at hSw); go_simp) <;> with_reducible rfl)
  case rest0 =>
    (try simp only [Act.put, List.setIfInBounds_toArray, List.set_cons_zero, List.set_cons_succ])
    refine anyH_at #[true, false, false, false, false, false] (by kernel_rfl) ?_
    refine wpAnyH_take (i := 1) (oi := { dst := some 45, op := _, type := _, pos := _, after := _, guard := _ }) (v := ?vv1) rfl (by kernel_rfl) (by kernel_rfl) (by kernel_rfl) (fun _ _ _ h => h) (Or.inl ⟨by rfl, ?hy1⟩) (by assumption) ?rest1
    case hy1 => ((intro w hSw; (try dsimp only at hSw); go_simp) <;> with_reducible rfl)
    case rest1 =>
      (try simp only [Act.put, List.setIfInBounds_toArray, List.set_cons_zero, List.set_cons_succ])
      refine anyH_at #[true, true, false, false, false, false] (by kernel_rfl) ?_
      refine wpAnyH_take (i := 2) (oi := { dst := some 46, op := _, type := _, pos := _, after := _, guard := _ }) (v := ?vv2) rfl (by kernel_rfl) (by kernel_rfl) (by kernel_rfl) (fun _ _ _ h => h) (Or.inl ⟨by rfl, ?hy2⟩) (by assumption) ?rest2
      case hy2 => ((intro w hSw; (try dsimp only at hSw); go_simp) <;> with_reducible rfl)
      case rest2 =>
        (try simp only [Act.put, List.setIfInBounds_toArray, List.set_cons_zero, List.set_cons_succ])
        refine anyH_at #[true, true, true, false, false, false] (by kernel_rfl) ?_
        refine wpAnyH_ready (rs := [3]) (by kernel_rfl) (by simp) ?_
        refine AllReadyH.cons (o := { dst := some 47, op := _, type := _, pos := _, after := _, guard := _ }) rfl (fun Kk hKk => ?_) AllReadyH.nil
        go_simp
        refine (unhide HG _).mono ?_
        rintro _ w2 ⟨rfl, hbl⟩
        have HB := hide (bthen (unhide HB) hbl)
        have HA := hide ((unhide HA).below hbl)
        clear hbl
        (try go_wp2_with fail)
        refine hKk.out _ _ ?_ (fun hHeld => ?_)
        · (try dsimp only)
          exact unhide HA
        clear hKk Kk
        (try simp only [List.setIfInBounds_toArray, List.set_cons_zero, List.set_cons_succ])
        refine anyH_at #[true, true, true, true, false, false] (by kernel_rfl) ?_
        refine wpAnyH_ready (rs := [4]) (by kernel_rfl) (by simp) ?_
        refine AllReadyH.cons (o := { dst := some 48, op := _, type := _, pos := _, after := _, guard := _ }) rfl (fun Kk hKk => ?_) AllReadyH.nil
        go_simp
        refine (unhide HC _).mono ?_
        rintro _ w3 ⟨rfl, hbl⟩
        have HB := hide (bthen (unhide HB) hbl)
        have HA := hide ((unhide HA).below hbl)
        clear hbl
        (try go_wp2_with fail)
        refine hKk.out _ _ ?_ (fun hHeld => ?_)
        · (try dsimp only)
          exact unhide HA
        clear hKk Kk
        (try simp only [List.setIfInBounds_toArray, List.set_cons_zero, List.set_cons_succ])
        refine anyH_at #[true, true, true, true, true, false] (by kernel_rfl) ?_
        refine wpAnyH_take (i := 5) (oi := { dst := some 2, op := _, type := _, pos := _, after := _, guard := _ }) (v := ?vv5) rfl (by kernel_rfl) (by kernel_rfl) (by kernel_rfl) (fun _ _ _ h => h) (Or.inl ⟨by rfl, ?hy5⟩) (by assumption) ?rest5
        case hy5 => ((intro w hSw; (try dsimp only at hSw); go_simp) <;> with_reducible rfl)
        case rest5 =>
          (try simp only [Act.put, List.setIfInBounds_toArray, List.set_cons_zero, List.set_cons_succ])
          refine anyH_at #[true, true, true, true, true, true] (by kernel_rfl) ?_
          refine wpAnyH_done (by kernel_rfl) ?_ _
          go_wp2
          go_ret
          exact ⟨rfl, unhide HB⟩
set_option maxRecDepth 100000 in
set_option maxHeartbeats 2000000 in
theorem nearestQ_z2 {w K1 X1 S1 K2 X2 S2 V : Int} {n1 n2 : Bool} (W : World) (HN : Hid (∀ W, Calls Try.prog 39 #[.agg #[.bool n1, .int .i64 K1, .int .i64 X1, .int .u64 S1, .bool n2, .int .i64 K2, .int .i64 X2, .int .u64 S2, .int .i64 w]] W fun r W' => r = .returned (.bool false) ∧ Below W.heap.size W W')) (HG : Hid (∀ W, Calls Try.prog 41 #[.agg #[.bool n1, .int .i64 K1, .int .i64 X1, .int .u64 S1, .bool n2, .int .i64 K2, .int .i64 X2, .int .u64 S2, .int .i64 w]] W fun r W' => r = .returned (.bool (n1 != n2)) ∧ Below W.heap.size W W')) (a2 : (K1 == 2) = false) (b0 : (K2 == 0) = false) (a0 : (K1 == 0) = false) (b2 : (K2 == 2) = true) (HC : Hid (∀ W, Calls Try.prog 12 #[.int .i64 w, .bool (n1 != n2)] W fun r W' => r = .returned (.int .u64 V) ∧ Below W.heap.size W W')) :
    Calls Try.prog 20 #[.agg #[.bool n1, .int .i64 K1, .int .i64 X1, .int .u64 S1, .bool n2, .int .i64 K2, .int .i64 X2, .int .u64 S2, .int .i64 w]] W fun r W' => r = .returned (.int .u64 V) ∧ Below W.heap.size W W' := by
  go_enter Try.func20, Try.ntmps20
  go_wp2_with fail
  have HB := hide (below1 W (.cells #[.bool n1, .int .i64 K1, .int .i64 X1, .int .u64 S1, .bool n2, .int .i64 K2, .int .i64 X2, .int .u64 S2, .int .i64 w] 42))
  have HA := hide (at9_new W (.bool n1) (.int .i64 K1) (.int .i64 X1) (.int .u64 S1) (.bool n2) (.int .i64 K2) (.int .i64 X2) (.int .u64 S2) (.int .i64 w) 42)
  refine (unhide HN _).mono ?_
  rintro _ w1 ⟨rfl, hbl⟩
  have HB := hide (bthen (unhide HB) hbl)
  have HA := hide ((unhide HA).below hbl)
  clear hbl
  obtain ⟨c0, c1, c2, c3, c4, c5, c6, c7, c8⟩ := unhide HA
  go_wp2_with fail
  clear c0 c1 c2 c3 c4 c5 c6 c7 c8
  have HB := hide ((unhide HB).drew)
  have HA := hide ((unhide HA).below ((Below.refl _ _).drew))
  refine wp_region_held_drew (S := fun w' => (w'.cell? ⟨W.heap.size, 0, none⟩ = some (.bool n1) ∧ w'.cell? ⟨W.heap.size, 1, none⟩ = some (.int .i64 K1) ∧ w'.cell? ⟨W.heap.size, 2, none⟩ = some (.int .i64 X1) ∧ w'.cell? ⟨W.heap.size, 3, none⟩ = some (.int .u64 S1) ∧ w'.cell? ⟨W.heap.size, 4, none⟩ = some (.bool n2) ∧ w'.cell? ⟨W.heap.size, 5, none⟩ = some (.int .i64 K2) ∧ w'.cell? ⟨W.heap.size, 6, none⟩ = some (.int .i64 X2) ∧ w'.cell? ⟨W.heap.size, 7, none⟩ = some (.int .u64 S2) ∧ w'.cell? ⟨W.heap.size, 8, none⟩ = some (.int .i64 w))) (by kernel_rfl) ?_ (fun hHeld => ?_)
  · (try dsimp only)
    exact unhide HA
  refine anyH_at #[false, false, false, false, false, false] (by kernel_rfl) ?_
  refine wpAnyH_take (i := 0) (oi := { dst := some 44, op := _, type := _, pos := _, after := _, guard := _ }) (v := ?vv0) rfl (by kernel_rfl) (by kernel_rfl) (by kernel_rfl) (fun _ _ _ h => h) (Or.inl ⟨by rfl, ?hy0⟩) (by assumption) ?rest0
  case hy0 => ((intro w hSw; (try dsimp only at hSw); go_simp) <;> with_reducible rfl)
  case rest0 =>
    (try simp only [Act.put, List.setIfInBounds_toArray, List.set_cons_zero, List.set_cons_succ])
    refine anyH_at #[true, false, false, false, false, false] (by kernel_rfl) ?_
    refine wpAnyH_take (i := 1) (oi := { dst := some 45, op := _, type := _, pos := _, after := _, guard := _ }) (v := ?vv1) rfl (by kernel_rfl) (by kernel_rfl) (by kernel_rfl) (fun _ _ _ h => h) (Or.inl ⟨by rfl, ?hy1⟩) (by assumption) ?rest1
    case hy1 => ((intro w hSw; (try dsimp only at hSw); go_simp) <;> with_reducible rfl)
    case rest1 =>
      (try simp only [Act.put, List.setIfInBounds_toArray, List.set_cons_zero, List.set_cons_succ])
      refine anyH_at #[true, true, false, false, false, false] (by kernel_rfl) ?_
      refine wpAnyH_take (i := 2) (oi := { dst := some 46, op := _, type := _, pos := _, after := _, guard := _ }) (v := ?vv2) rfl (by kernel_rfl) (by kernel_rfl) (by kernel_rfl) (fun _ _ _ h => h) (Or.inl ⟨by rfl, ?hy2⟩) (by assumption) ?rest2
      case hy2 => ((intro w hSw; (try dsimp only at hSw); go_simp) <;> with_reducible rfl)
      case rest2 =>
        (try simp only [Act.put, List.setIfInBounds_toArray, List.set_cons_zero, List.set_cons_succ])
        refine anyH_at #[true, true, true, false, false, false] (by kernel_rfl) ?_
        refine wpAnyH_ready (rs := [3]) (by kernel_rfl) (by simp) ?_
        refine AllReadyH.cons (o := { dst := some 47, op := _, type := _, pos := _, after := _, guard := _ }) rfl (fun Kk hKk => ?_) AllReadyH.nil
        go_simp
        refine (unhide HG _).mono ?_
        rintro _ w2 ⟨rfl, hbl⟩
        have HB := hide (bthen (unhide HB) hbl)
        have HA := hide ((unhide HA).below hbl)
        clear hbl
        (try go_wp2_with fail)
        refine hKk.out _ _ ?_ (fun hHeld => ?_)
        · (try dsimp only)
          exact unhide HA
        clear hKk Kk
        (try simp only [List.setIfInBounds_toArray, List.set_cons_zero, List.set_cons_succ])
        refine anyH_at #[true, true, true, true, false, false] (by kernel_rfl) ?_
        refine wpAnyH_ready (rs := [4]) (by kernel_rfl) (by simp) ?_
        refine AllReadyH.cons (o := { dst := some 48, op := _, type := _, pos := _, after := _, guard := _ }) rfl (fun Kk hKk => ?_) AllReadyH.nil
        go_simp
        refine (unhide HC _).mono ?_
        rintro _ w3 ⟨rfl, hbl⟩
        have HB := hide (bthen (unhide HB) hbl)
        have HA := hide ((unhide HA).below hbl)
        clear hbl
        (try go_wp2_with fail)
        refine hKk.out _ _ ?_ (fun hHeld => ?_)
        · (try dsimp only)
          exact unhide HA
        clear hKk Kk
        (try simp only [List.setIfInBounds_toArray, List.set_cons_zero, List.set_cons_succ])
        refine anyH_at #[true, true, true, true, true, false] (by kernel_rfl) ?_
        refine wpAnyH_take (i := 5) (oi := { dst := some 2, op := _, type := _, pos := _, after := _, guard := _ }) (v := ?vv5) rfl (by kernel_rfl) (by kernel_rfl) (by kernel_rfl) (fun _ _ _ h => h) (Or.inl ⟨by rfl, ?hy5⟩) (by assumption) ?rest5
        case hy5 => ((intro w hSw; (try dsimp only at hSw); go_simp) <;> with_reducible rfl)
        case rest5 =>
          (try simp only [Act.put, List.setIfInBounds_toArray, List.set_cons_zero, List.set_cons_succ])
          refine anyH_at #[true, true, true, true, true, true] (by kernel_rfl) ?_
          refine wpAnyH_done (by kernel_rfl) ?_ _
          go_wp2
          go_ret
          exact ⟨rfl, unhide HB⟩
theorem at2_new (w : World) (x y : Value) (t : TypeId) : At2 w.heap.size x y (w.alloc (.cells #[x, y] t)) := by unfold At2; simp [go_sem]
set_option maxRecDepth 100000 in
set_option maxHeartbeats 2000000 in
theorem nearestQ_fin {w K1 X1 S1 K2 X2 S2 E Y h l h' l' V : Int} {n1 n2 m : Bool} (W : World) (HN : Hid (∀ W, Calls Try.prog 39 #[.agg #[.bool n1, .int .i64 K1, .int .i64 X1, .int .u64 S1, .bool n2, .int .i64 K2, .int .i64 X2, .int .u64 S2, .int .i64 w]] W fun r W' => r = .returned (.bool false) ∧ Below W.heap.size W W')) (HG : Hid (∀ W, Calls Try.prog 41 #[.agg #[.bool n1, .int .i64 K1, .int .i64 X1, .int .u64 S1, .bool n2, .int .i64 K2, .int .i64 X2, .int .u64 S2, .int .i64 w]] W fun r W' => r = .returned (.bool (n1 != n2)) ∧ Below W.heap.size W W')) (a2 : (K1 == 2) = false) (b0 : (K2 == 0) = false) (a0 : (K1 == 0) = false) (b2 : (K2 == 2) = false) (HR : Hid (∀ W, Calls Try.prog 42 #[.agg #[.bool n1, .int .i64 K1, .int .i64 X1, .int .u64 S1]] W fun r W' => r = .returned (.tuple #[.agg #[.int .u64 h, .int .u64 l], .int .i64 E]) ∧ Below W.heap.size W W')) (HI : Hid (∀ W, Calls Try.prog 43 #[.agg #[.bool n2, .int .i64 K2, .int .i64 X2, .int .u64 S2], .agg #[.int .u64 h, .int .u64 l]] W fun r W' => r = .returned (.tuple #[.agg #[.int .u64 h', .int .u64 l'], .bool m]) ∧ Below W.heap.size W W')) (kx : IntKind.i64.wrap (E - X2) = Y) (HC : Hid (∀ W, Calls Try.prog 44 #[.int .i64 w, .bool (n1 != n2), .agg #[.int .u64 h', .int .u64 l'], .int .i64 Y, .bool m] W fun r W' => r = .returned (.int .u64 V) ∧ Below W.heap.size W W')) :
    Calls Try.prog 20 #[.agg #[.bool n1, .int .i64 K1, .int .i64 X1, .int .u64 S1, .bool n2, .int .i64 K2, .int .i64 X2, .int .u64 S2, .int .i64 w]] W fun r W' => r = .returned (.int .u64 V) ∧ Below W.heap.size W W' := by
  go_enter Try.func20, Try.ntmps20
  go_wp2_with fail
  have HB := hide (below1 W (.cells #[.bool n1, .int .i64 K1, .int .i64 X1, .int .u64 S1, .bool n2, .int .i64 K2, .int .i64 X2, .int .u64 S2, .int .i64 w] 42))
  have HA := hide (at9_new W (.bool n1) (.int .i64 K1) (.int .i64 X1) (.int .u64 S1) (.bool n2) (.int .i64 K2) (.int .i64 X2) (.int .u64 S2) (.int .i64 w) 42)
  refine (unhide HN _).mono ?_
  rintro _ w1 ⟨rfl, hbl⟩
  have HB := hide (bthen (unhide HB) hbl)
  have HA := hide ((unhide HA).below hbl)
  clear hbl
  obtain ⟨c0, c1, c2, c3, c4, c5, c6, c7, c8⟩ := unhide HA
  go_wp2_with fail
  clear c0 c1 c2 c3 c4 c5 c6 c7 c8
  refine (unhide HR _).mono ?_
  rintro _ w2 ⟨rfl, hbl⟩
  have HB := hide (bthen (unhide HB) hbl)
  have HA := hide ((unhide HA).below hbl)
  clear hbl
  have HB := hide (balloc (unhide HB) (.cells #[.int .u64 h, .int .u64 l] 62))
  have HA := hide ((unhide HA).below (below1 _ (.cells #[.int .u64 h, .int .u64 l] 62)))
  obtain ⟨c0, c1, c2, c3, c4, c5, c6, c7, c8⟩ := unhide HA
  go_wp2_with fail
  clear c0 c1 c2 c3 c4 c5 c6 c7 c8
  refine (unhide HI _).mono ?_
  rintro _ w3 ⟨rfl, hbl⟩
  have HB := hide (bthen (unhide HB) hbl)
  have HA := hide ((unhide HA).below hbl)
  clear hbl
  have HB := hide (balloc (unhide HB) (.cells #[.int .u64 h', .int .u64 l'] 62))
  have HA := hide ((unhide HA).below (below1 _ (.cells #[.int .u64 h', .int .u64 l'] 62)))
  have H2 := hide (at2_new w3 (.int .u64 h') (.int .u64 l') 62)
  go_wp2_with fail
  have HB := hide ((unhide HB).drew)
  have HA := hide ((unhide HA).below ((Below.refl _ _).drew))
  have H2 := hide ((unhide H2).below ((Below.refl _ _).drew))
  refine wp_region_held_drew (S := fun w' => (w'.cell? ⟨W.heap.size, 0, none⟩ = some (.bool n1) ∧ w'.cell? ⟨W.heap.size, 1, none⟩ = some (.int .i64 K1) ∧ w'.cell? ⟨W.heap.size, 2, none⟩ = some (.int .i64 X1) ∧ w'.cell? ⟨W.heap.size, 3, none⟩ = some (.int .u64 S1) ∧ w'.cell? ⟨W.heap.size, 4, none⟩ = some (.bool n2) ∧ w'.cell? ⟨W.heap.size, 5, none⟩ = some (.int .i64 K2) ∧ w'.cell? ⟨W.heap.size, 6, none⟩ = some (.int .i64 X2) ∧ w'.cell? ⟨W.heap.size, 7, none⟩ = some (.int .u64 S2) ∧ w'.cell? ⟨W.heap.size, 8, none⟩ = some (.int .i64 w)) ∧ (w'.cell? ⟨w3.heap.size, 0, none⟩ = some (.int .u64 h') ∧ w'.cell? ⟨w3.heap.size, 1, none⟩ = some (.int .u64 l'))) (by kernel_rfl) ?_ (fun hHeld => ?_)
  · (try dsimp only)
    exact ⟨unhide HA, unhide H2⟩
  refine anyH_at #[false, false, false, false, false, false, false, false, false, false, false, false, false, false] (by kernel_rfl) ?_
  refine wpAnyH_take (i := 0) (oi := { dst := some 62, op := _, type := _, pos := _, after := _, guard := _ }) (v := ?vv0) rfl (by kernel_rfl) (by kernel_rfl) (by kernel_rfl) (fun _ _ _ h => h) (Or.inl ⟨by rfl, ?hy0⟩) (by assumption) ?rest0
  case hy0 => ((intro w hSw; (try dsimp only at hSw); go_simp) <;> with_reducible rfl)
  case rest0 =>
    (try simp only [Act.put, List.setIfInBounds_toArray, List.set_cons_zero, List.set_cons_succ])
    refine anyH_at #[true, false, false, false, false, false, false, false, false, false, false, false, false, false] (by kernel_rfl) ?_
    refine wpAnyH_take (i := 1) (oi := { dst := some 63, op := _, type := _, pos := _, after := _, guard := _ }) (v := ?vv1) rfl (by kernel_rfl) (by kernel_rfl) (by kernel_rfl) (fun _ _ _ h => h) (Or.inl ⟨by rfl, ?hy1⟩) (by assumption) ?rest1
    case hy1 => ((intro w hSw; (try dsimp only at hSw); go_simp) <;> with_reducible rfl)
    case rest1 =>
      (try simp only [Act.put, List.setIfInBounds_toArray, List.set_cons_zero, List.set_cons_succ])
      refine anyH_at #[true, true, false, false, false, false, false, false, false, false, false, false, false, false] (by kernel_rfl) ?_
      refine wpAnyH_take (i := 2) (oi := { dst := some 64, op := _, type := _, pos := _, after := _, guard := _ }) (v := ?vv2) rfl (by kernel_rfl) (by kernel_rfl) (by kernel_rfl) (fun _ _ _ h => h) (Or.inl ⟨by rfl, ?hy2⟩) (by assumption) ?rest2
      case hy2 => ((intro w hSw; (try dsimp only at hSw); go_simp) <;> with_reducible rfl)
      case rest2 =>
        (try simp only [Act.put, List.setIfInBounds_toArray, List.set_cons_zero, List.set_cons_succ])
        refine anyH_at #[true, true, true, false, false, false, false, false, false, false, false, false, false, false] (by kernel_rfl) ?_
        refine wpAnyH_take (i := 4) (oi := { dst := some 66, op := _, type := _, pos := _, after := _, guard := _ }) (v := ?vv4) rfl (by kernel_rfl) (by kernel_rfl) (by kernel_rfl) (fun _ _ _ h => h) (Or.inl ⟨by rfl, ?hy4⟩) (by assumption) ?rest4
        case hy4 => ((intro w hSw; (try dsimp only at hSw); go_simp) <;> with_reducible rfl)
        case rest4 =>
          (try simp only [Act.put, List.setIfInBounds_toArray, List.set_cons_zero, List.set_cons_succ])
          refine anyH_at #[true, true, true, false, true, false, false, false, false, false, false, false, false, false] (by kernel_rfl) ?_
          refine wpAnyH_take (i := 5) (oi := { dst := some 67, op := _, type := _, pos := _, after := _, guard := _ }) (v := ?vv5) rfl (by kernel_rfl) (by kernel_rfl) (by kernel_rfl) (fun _ _ _ h => h) (Or.inl ⟨by rfl, ?hy5⟩) (by assumption) ?rest5
          case hy5 => ((intro w hSw; (try dsimp only at hSw); go_simp) <;> with_reducible rfl)
          case rest5 =>
            (try simp only [Act.put, List.setIfInBounds_toArray, List.set_cons_zero, List.set_cons_succ])
            refine anyH_at #[true, true, true, false, true, true, false, false, false, false, false, false, false, false] (by kernel_rfl) ?_
            refine wpAnyH_take (i := 6) (oi := { dst := some 68, op := _, type := _, pos := _, after := _, guard := _ }) (v := ?vv6) rfl (by kernel_rfl) (by kernel_rfl) (by kernel_rfl) (fun _ _ _ h => h) (Or.inl ⟨by rfl, ?hy6⟩) (by assumption) ?rest6
            case hy6 => ((intro w hSw; (try dsimp only at hSw); go_simp) <;> with_reducible rfl)
            case rest6 =>
              (try simp only [Act.put, List.setIfInBounds_toArray, List.set_cons_zero, List.set_cons_succ])
              refine anyH_at #[true, true, true, false, true, true, true, false, false, false, false, false, false, false] (by kernel_rfl) ?_
              refine wpAnyH_take (i := 7) (oi := { dst := some 69, op := _, type := _, pos := _, after := _, guard := _ }) (v := ?vv7) rfl (by kernel_rfl) (by kernel_rfl) (by kernel_rfl) (fun _ _ _ h => h) (Or.inl ⟨by rfl, ?hy7⟩) (by assumption) ?rest7
              case hy7 => ((intro w hSw; (try dsimp only at hSw); go_simp) <;> with_reducible rfl)
              case rest7 =>
                (try simp only [Act.put, List.setIfInBounds_toArray, List.set_cons_zero, List.set_cons_succ])
                refine anyH_at #[true, true, true, false, true, true, true, true, false, false, false, false, false, false] (by kernel_rfl) ?_
                refine wpAnyH_take (i := 8) (oi := { dst := some 70, op := _, type := _, pos := _, after := _, guard := _ }) (v := ?vv8) rfl (by kernel_rfl) (by kernel_rfl) (by kernel_rfl) (fun _ _ _ h => h) (Or.inl ⟨by rfl, ?hy8⟩) (by assumption) ?rest8
                case hy8 => ((intro w hSw; (try dsimp only at hSw); go_simp) <;> with_reducible rfl)
                case rest8 =>
                  (try simp only [Act.put, List.setIfInBounds_toArray, List.set_cons_zero, List.set_cons_succ])
                  refine anyH_at #[true, true, true, false, true, true, true, true, true, false, false, false, false, false] (by kernel_rfl) ?_
                  refine wpAnyH_take (i := 9) (oi := { dst := some 71, op := _, type := _, pos := _, after := _, guard := _ }) (v := ?vv9) rfl (by kernel_rfl) (by kernel_rfl) (by kernel_rfl) (fun _ _ _ h => h) (Or.inl ⟨by rfl, ?hy9⟩) (by assumption) ?rest9
                  case hy9 => ((intro w hSw; (try dsimp only at hSw); go_simp) <;> with_reducible rfl)
                  case rest9 =>
                    (try simp only [Act.put, List.setIfInBounds_toArray, List.set_cons_zero, List.set_cons_succ])
                    refine anyH_at #[true, true, true, false, true, true, true, true, true, true, false, false, false, false] (by kernel_rfl) ?_
                    refine wpAnyH_take (i := 10) (oi := { dst := some 72, op := _, type := _, pos := _, after := _, guard := _ }) (v := ?vv10) rfl (by kernel_rfl) (by kernel_rfl) (by kernel_rfl) (fun _ _ _ h => h) (Or.inl ⟨by rfl, ?hy10⟩) (by assumption) ?rest10
                    case hy10 => ((intro w hSw; (try dsimp only at hSw); go_simp) <;> with_reducible rfl)
                    case rest10 =>
                      (try simp only [Act.put, List.setIfInBounds_toArray, List.set_cons_zero, List.set_cons_succ])
                      refine anyH_at #[true, true, true, false, true, true, true, true, true, true, true, false, false, false] (by kernel_rfl) ?_
                      refine wpAnyH_take (i := 11) (oi := { dst := some 73, op := _, type := _, pos := _, after := _, guard := _ }) (v := ?vv11) rfl (by kernel_rfl) (by kernel_rfl) (by kernel_rfl) (fun _ _ _ h => h) (Or.inl ⟨by rfl, ?hy11⟩) (by assumption) ?rest11
                      case hy11 => ((intro w hSw; (try dsimp only at hSw); go_simp) <;> with_reducible rfl)
                      case rest11 =>
                        (try simp only [Act.put, List.setIfInBounds_toArray, List.set_cons_zero, List.set_cons_succ])
                        refine anyH_at #[true, true, true, false, true, true, true, true, true, true, true, true, false, false] (by kernel_rfl) ?_
                        refine wpAnyH_ready (rs := [3]) (by kernel_rfl) (by simp) ?_
                        refine AllReadyH.cons (o := { dst := some 65, op := _, type := _, pos := _, after := _, guard := _ }) rfl (fun Kk hKk => ?_) AllReadyH.nil
                        go_simp
                        refine (unhide HG _).mono ?_
                        rintro _ w4 ⟨rfl, hbl⟩
                        have HB := hide (bthen (unhide HB) hbl)
                        have HA := hide ((unhide HA).below hbl)
                        have H2 := hide ((unhide H2).below hbl)
                        clear hbl
                        (try go_wp2_with fail)
                        refine hKk.out _ _ ?_ (fun hHeld => ?_)
                        · (try dsimp only)
                          exact ⟨unhide HA, unhide H2⟩
                        clear hKk Kk
                        (try simp only [List.setIfInBounds_toArray, List.set_cons_zero, List.set_cons_succ])
                        refine anyH_at #[true, true, true, true, true, true, true, true, true, true, true, true, false, false] (by kernel_rfl) ?_
                        refine wpAnyH_ready (rs := [12]) (by kernel_rfl) (by simp) ?_
                        refine AllReadyH.cons (o := { dst := some 74, op := _, type := _, pos := _, after := _, guard := _ }) rfl (fun Kk hKk => ?_) AllReadyH.nil
                        go_simp
                        refine (unhide HC _).mono ?_
                        rintro _ w5 ⟨rfl, hbl⟩
                        have HB := hide (bthen (unhide HB) hbl)
                        have HA := hide ((unhide HA).below hbl)
                        have H2 := hide ((unhide H2).below hbl)
                        clear hbl
                        (try go_wp2_with fail)
                        refine hKk.out _ _ ?_ (fun hHeld => ?_)
                        · (try dsimp only)
                          exact ⟨unhide HA, unhide H2⟩
                        clear hKk Kk
                        (try simp only [List.setIfInBounds_toArray, List.set_cons_zero, List.set_cons_succ])
                        refine anyH_at #[true, true, true, true, true, true, true, true, true, true, true, true, true, false] (by kernel_rfl) ?_
                        refine wpAnyH_take (i := 13) (oi := { dst := some 2, op := _, type := _, pos := _, after := _, guard := _ }) (v := ?vv13) rfl (by kernel_rfl) (by kernel_rfl) (by kernel_rfl) (fun _ _ _ h => h) (Or.inl ⟨by rfl, ?hy13⟩) (by assumption) ?rest13
                        case hy13 => ((intro w hSw; (try dsimp only at hSw); go_simp) <;> with_reducible rfl)
                        case rest13 =>
                          (try simp only [Act.put, List.setIfInBounds_toArray, List.set_cons_zero, List.set_cons_succ])
                          refine anyH_at #[true, true, true, true, true, true, true, true, true, true, true, true, true, true] (by kernel_rfl) ?_
                          refine wpAnyH_done (by kernel_rfl) ?_ _
                          go_wp2
                          go_ret
                          exact ⟨rfl, unhide HB⟩
set_option maxRecDepth 100000 in
set_option maxHeartbeats 2000000 in
theorem quoDiv_l {w x y K1 X1 S1 K2 X2 S2 V : Int} {n1 n2 : Bool} (W : World) (HO1 : Hid (∀ W, Calls Try.prog 13 #[.int .i64 w, .int .u64 x] W fun r W' => r = .returned (.agg #[.bool n1, .int .i64 K1, .int .i64 X1, .int .u64 S1]) ∧ Below W.heap.size W W')) (HO2 : Hid (∀ W, Calls Try.prog 13 #[.int .i64 w, .int .u64 y] W fun r W' => r = .returned (.agg #[.bool n2, .int .i64 K2, .int .i64 X2, .int .u64 S2]) ∧ Below W.heap.size W W')) (HP : Hid (∀ W, Calls Try.prog 20 #[.agg #[.bool n1, .int .i64 K1, .int .i64 X1, .int .u64 S1, .bool n2, .int .i64 K2, .int .i64 X2, .int .u64 S2, .int .i64 w]] W fun r W' => r = .returned (.int .u64 V) ∧ Below W.heap.size W W')) :
    Calls Try.prog 7 #[.int .i64 w, .int .u64 x, .int .u64 y] W fun r W' => r = .returned (.int .u64 V) ∧ Below W.heap.size W W' := by
  go_enter Try.func7, Try.ntmps7
  go_wp2_with fail
  refine (unhide HO1 _).mono ?_
  rintro _ w1 ⟨rfl, hb1⟩
  go_wp2_with fail
  refine (unhide HO2 _).mono ?_
  rintro _ w2 ⟨rfl, hb2⟩
  go_wp2_with fail
  refine (unhide HP _).mono ?_
  rintro _ w3 ⟨rfl, hb3⟩
  go_wp2_with fail
  go_ret
  exact ⟨rfl, bthen (balloc (bthen hb1 hb2) (.cells #[.bool n1, .int .i64 K1, .int .i64 X1, .int .u64 S1, .bool n2, .int .i64 K2, .int .i64 X2, .int .u64 S2, .int .i64 w] 42)) hb3⟩
set_option maxRecDepth 100000 in
set_option maxHeartbeats 2000000 in
theorem quoInv_l {w x O V : Int} (W : World) (HW : Hid (∀ W, Calls Try.prog 21 #[.int .i64 w, .bool false, .int .u64 1] W fun r W' => r = .returned (.int .u64 O) ∧ Below W.heap.size W W')) (HD : Hid (∀ W, Calls Try.prog 7 #[.int .i64 w, .int .u64 O, .int .u64 x] W fun r W' => r = .returned (.int .u64 V) ∧ Below W.heap.size W W')) :
    Calls Try.prog 8 #[.int .i64 w, .int .u64 x] W fun r W' => r = .returned (.int .u64 V) ∧ Below W.heap.size W W' := by
  go_enter Try.func8, Try.ntmps8
  go_wp2_with fail
  refine (unhide HW _).mono ?_
  rintro _ w1 ⟨rfl, hb1⟩
  go_wp2_with fail
  refine (unhide HD _).mono ?_
  rintro _ w2 ⟨rfl, hb2⟩
  go_wp2_with fail
  go_ret
  exact ⟨rfl, bthen hb1 hb2⟩

end Go.Proofs.Ytcgnlpamfhdiiaa
