/- QuoC. -/
import Derived.Test.YtpbgpdmffejdgaaGreatDoorS01
import Derived.Test.YtpbgpdmffejdgaaGreatDoorS16
import Derived.Test.YtpbgpdmffejdgaaGreatDoorS17
import Derived.Test.YtpbgpdmffejdgaaGreatDoorS24
import Derived.Test.YtpbgpdmffejdgaaGreatDoorS36
namespace Go.Proofs.YtpbgpdmffejdgaaGreatDoor
open Go.RowKit
open Go.Proofs.YtpbgpdmffejdgaaGreatDoor.W

set_option maxRecDepth 100000 in
set_option maxHeartbeats 2000000 in
theorem isNeg_l {w K1 X1 S1 K2 X2 S2 : Int} {n1 n2 : Bool} (W : World) :
    Calls Tryz.prog 242 #[.agg #[.bool n1, .int .i64 K1, .int .i64 X1, .int .u64 S1, .bool n2, .int .i64 K2, .int .i64 X2, .int .u64 S2, .int .i64 w]] W fun r W' => r = .returned (.bool (n1 != n2)) ∧ Below W.heap.size W W' := by
  go_enter Tryz.func242, Tryz.ntmps242
  go_wp2_with fail
  go_ret
  exact ⟨rfl, below1 W (.cells #[.bool n1, .int .i64 K1, .int .i64 X1, .int .u64 S1, .bool n2, .int .i64 K2, .int .i64 X2, .int .u64 S2, .int .i64 w] 147)⟩
set_option maxRecDepth 100000 in
set_option maxHeartbeats 2000000 in
theorem isNone_same {w K1 X1 S1 K2 X2 S2 : Int} {n1 n2 : Bool} (W : World) (h : (K1 == K2) = true) :
    Calls Tryz.prog 241 #[.agg #[.bool n1, .int .i64 K1, .int .i64 X1, .int .u64 S1, .bool n2, .int .i64 K2, .int .i64 X2, .int .u64 S2, .int .i64 w]] W fun r W' => r = .returned (.bool (K1 != 1)) ∧ Below W.heap.size W W' := by
  go_enter Tryz.func241, Tryz.ntmps241
  go_wp2_with fail
  go_ret
  exact ⟨rfl, below1 W (.cells #[.bool n1, .int .i64 K1, .int .i64 X1, .int .u64 S1, .bool n2, .int .i64 K2, .int .i64 X2, .int .u64 S2, .int .i64 w] 147)⟩
set_option maxRecDepth 100000 in
set_option maxHeartbeats 2000000 in
theorem isNone_one {w K1 X1 S1 K2 X2 S2 : Int} {n1 n2 : Bool} (W : World) (h : (K1 == K2) = false) (h1 : (K1 == 3) = true) :
    Calls Tryz.prog 241 #[.agg #[.bool n1, .int .i64 K1, .int .i64 X1, .int .u64 S1, .bool n2, .int .i64 K2, .int .i64 X2, .int .u64 S2, .int .i64 w]] W fun r W' => r = .returned (.bool true) ∧ Below W.heap.size W W' := by
  go_enter Tryz.func241, Tryz.ntmps241
  go_wp2_with fail
  go_ret
  exact ⟨rfl, below1 W (.cells #[.bool n1, .int .i64 K1, .int .i64 X1, .int .u64 S1, .bool n2, .int .i64 K2, .int .i64 X2, .int .u64 S2, .int .i64 w] 147)⟩
set_option maxRecDepth 100000 in
set_option maxHeartbeats 2000000 in
theorem isNone_two {w K1 X1 S1 K2 X2 S2 : Int} {n1 n2 : Bool} (W : World) (h : (K1 == K2) = false) (h1 : (K1 == 3) = false) :
    Calls Tryz.prog 241 #[.agg #[.bool n1, .int .i64 K1, .int .i64 X1, .int .u64 S1, .bool n2, .int .i64 K2, .int .i64 X2, .int .u64 S2, .int .i64 w]] W fun r W' => r = .returned (.bool (K2 == 3)) ∧ Below W.heap.size W W' := by
  go_enter Tryz.func241, Tryz.ntmps241
  go_wp2_with fail
  go_ret
  exact ⟨rfl, below1 W (.cells #[.bool n1, .int .i64 K1, .int .i64 X1, .int .u64 S1, .bool n2, .int .i64 K2, .int .i64 X2, .int .u64 S2, .int .i64 w] 147)⟩
set_option maxRecDepth 100000 in
set_option maxHeartbeats 2000000 in
theorem raised_l {K1 X1 S1 h l L U h' l' E : Int} {n1 : Bool} (W : World) (HO : Ct 161 #[.int .u64 S1] (.agg #[.int .u64 h, .int .u64 l])) (HL : Ct 233 #[.agg #[.int .u64 h, .int .u64 l]] (.int .i64 L)) (ku : IntKind.i64.wrap (128 - L) = U)
    (HS : Ct 234 #[.agg #[.int .u64 h, .int .u64 l], .int .i64 U] (.agg #[.int .u64 h', .int .u64 l'])) (kx : IntKind.i64.wrap (X1 - U) = E) :
    Calls Tryz.prog 243 #[.agg #[.bool n1, .int .i64 K1, .int .i64 X1, .int .u64 S1]] W fun r W' => r = .returned (.tuple #[.agg #[.int .u64 h', .int .u64 l'], .int .i64 E]) ∧ Below W.heap.size W W' := by
  go_enter Tryz.func243, Tryz.ntmps243
  go_wp2_with fail
  have HB := hide (below2 W (.cells #[.bool n1, .int .i64 K1, .int .i64 X1, .int .u64 S1] 144) (.cells #[.int .u64 0, .int .u64 0] 135))
  have HA := hide (at4_new2a W (.bool n1) (.int .i64 K1) (.int .i64 X1) (.int .u64 S1) 144 (.cells #[.int .u64 0, .int .u64 0] 135))
  have HR : Hid (Room (W.heap.size + 1) 2 ((W.alloc (.cells #[.bool n1, .int .i64 K1, .int .i64 X1, .int .u64 S1] 144)).alloc (.cells #[.int .u64 0, .int .u64 0] 135))) := by
    have := room2_new (W.alloc (.cells #[.bool n1, .int .i64 K1, .int .i64 X1, .int .u64 S1] 144)) (.int .u64 0) (.int .u64 0) 135
    rw [show (W.alloc (.cells #[.bool n1, .int .i64 K1, .int .i64 X1, .int .u64 S1] 144)).heap.size = W.heap.size + 1 by simp] at this
    exact this
  refine (unhide HO _).mono ?_
  rintro _ w1 ⟨rfl, hbl⟩
  have HB := hide (bthen (unhide HB) hbl)
  have HA := hide ((unhide HA).below hbl)
  have HR := hide ((unhide HR).below hbl)
  clear hbl
  obtain ⟨⟨v0, c0⟩, r0⟩ := (unhide HR) 0 (by omega)
  obtain ⟨⟨v1, c1⟩, r1⟩ := (unhide HR) 1 (by omega)
  go_wp2_with fail
  clear c0 c1 r0 r1 v0 v1
  have HB := hide (bset2 (unhide HB) (show W.heap.size ≤ W.heap.size + 1 by omega) (.int .u64 h) (.int .u64 l))
  have HA := hide ((unhide HA).set2 (show W.heap.size ≠ W.heap.size + 1 by omega) (.int .u64 h) (.int .u64 l))
  have H2 := hide (at2_set2 (unhide HR) (.int .u64 h) (.int .u64 l))
  have HR := hide ((unhide HR).set2 (.int .u64 h) (.int .u64 l))
  refine (unhide HL _).mono ?_
  rintro _ w2 ⟨rfl, hbl⟩
  have HB := hide (bthen (unhide HB) hbl)
  have HA := hide ((unhide HA).below hbl)
  have H2 := hide ((unhide H2).below hbl)
  have HR := hide ((unhide HR).below hbl)
  clear hbl
  go_wp2_with fail
  have HB := hide ((unhide HB).drew)
  have HA := hide ((unhide HA).below ((Below.refl _ _).drew))
  have H2 := hide ((unhide H2).below ((Below.refl _ _).drew))
  have HR := hide ((unhide HR).below ((Below.refl _ _).drew))
  obtain ⟨c0, c1, c2, c3⟩ := unhide HA
  obtain ⟨d0, d1⟩ := unhide H2
  go_region_with (first
    | (go_at_call 234; refine (unhide HS _).mono ?_; rintro e w8 ⟨rfl, hbl⟩; have HB8 := hide (bthen (unhide HB) hbl); have HR8 := hide ((unhide HR).below hbl); obtain ⟨e0, e1, e2, e3⟩ := (unhide HA).below hbl; obtain ⟨⟨v0, f0⟩, r0⟩ := (unhide HR8) 0 (by omega); obtain ⟨⟨v1, f1⟩, r1⟩ := (unhide HR8) 1 (by omega); clear hbl))
  all_goals
    go_wp2_with fail
    exact bodyPost_ret (v := .tuple #[.agg #[.int .u64 h', .int .u64 l'], .int .i64 E]) (by simp (maxDischargeDepth := 8) [results, Tryz.results243, go_sem, f0, f1]) rfl ⟨rfl, bset2 (unhide HB8) (show W.heap.size ≤ W.heap.size + 1 by omega) _ _⟩
set_option maxRecDepth 100000 in
set_option maxHeartbeats 2000000 in
theorem into_l {K2 X2 S2 h l h' l' t e : Int} {n2 : Bool} (W : World) (HD : Ct 270 #[.agg #[.int .u64 h, .int .u64 l], .int .u64 S2] (.tuple #[.agg #[.int .u64 h', .int .u64 l'], .int .u64 t, .int .i64 e])) :
    Calls Tryz.prog 244 #[.agg #[.bool n2, .int .i64 K2, .int .i64 X2, .int .u64 S2], .agg #[.int .u64 h, .int .u64 l]] W fun r' W' => r' = .returned (.tuple #[.agg #[.int .u64 h', .int .u64 l'], .bool (t != 0)]) ∧ Below W.heap.size W W' := by
  go_enter Tryz.func244, Tryz.ntmps244
  go_wp2_with fail
  have HB : Hid (Below W.heap.size W (((W.alloc (.cells #[.bool n2, .int .i64 K2, .int .i64 X2, .int .u64 S2] 145)).alloc (.cells #[.int .u64 h, .int .u64 l] 135)).alloc (.cells #[.int .u64 0, .int .u64 0] 135))) := balloc (below2 W (.cells #[.bool n2, .int .i64 K2, .int .i64 X2, .int .u64 S2] 145) (.cells #[.int .u64 h, .int .u64 l] 135)) _
  have HR : Hid (Room (W.heap.size + 1 + 1) 2 (((W.alloc (.cells #[.bool n2, .int .i64 K2, .int .i64 X2, .int .u64 S2] 145)).alloc (.cells #[.int .u64 h, .int .u64 l] 135)).alloc (.cells #[.int .u64 0, .int .u64 0] 135))) := by
    have := room2_new ((W.alloc (.cells #[.bool n2, .int .i64 K2, .int .i64 X2, .int .u64 S2] 145)).alloc (.cells #[.int .u64 h, .int .u64 l] 135)) (.int .u64 0) (.int .u64 0) 135
    rw [show ((W.alloc (.cells #[.bool n2, .int .i64 K2, .int .i64 X2, .int .u64 S2] 145)).alloc (.cells #[.int .u64 h, .int .u64 l] 135)).heap.size = W.heap.size + 1 + 1 by simp] at this
    exact this
  refine (unhide HD _).mono ?_
  rintro _ w1 ⟨rfl, hbl⟩
  have HB := hide (bthen (unhide HB) hbl)
  have HR := hide ((unhide HR).below hbl)
  clear hbl
  obtain ⟨⟨v0, c0⟩, r0⟩ := (unhide HR) 0 (by omega)
  obtain ⟨⟨v1, c1⟩, r1⟩ := (unhide HR) 1 (by omega)
  go_wp2_with fail
  exact bodyPost_ret (v := .tuple #[.agg #[.int .u64 h', .int .u64 l'], .bool (t != 0)]) (by simp (maxDischargeDepth := 8) [results, Tryz.results244, go_sem, c0, c1]) rfl ⟨rfl, bset2 (bset2 (unhide HB) (show W.heap.size ≤ W.heap.size + 1 + 1 by omega) _ _) (show W.heap.size ≤ W.heap.size + 1 + 1 by omega) _ _⟩
set_option maxRecDepth 100000 in
set_option maxHeartbeats 2000000 in
theorem nearestQ_nan {w K1 X1 S1 K2 X2 S2 V : Int} {n1 n2 : Bool} (W : World) (HN : Ct 241 #[.agg #[.bool n1, .int .i64 K1, .int .i64 X1, .int .u64 S1, .bool n2, .int .i64 K2, .int .i64 X2, .int .u64 S2, .int .i64 w]] (.bool true)) (HC : Ct 156 #[.int .i64 w] (.int .u64 V)) :
    Calls Tryz.prog 164 #[.agg #[.bool n1, .int .i64 K1, .int .i64 X1, .int .u64 S1, .bool n2, .int .i64 K2, .int .i64 X2, .int .u64 S2, .int .i64 w]] W fun r W' => r = .returned (.int .u64 V) ∧ Below W.heap.size W W' := by
  go_enter Tryz.func164, Tryz.ntmps164
  go_wp2_with fail
  have HB := hide (below1 W (.cells #[.bool n1, .int .i64 K1, .int .i64 X1, .int .u64 S1, .bool n2, .int .i64 K2, .int .i64 X2, .int .u64 S2, .int .i64 w] 147))
  have HA := hide (at9_new W (.bool n1) (.int .i64 K1) (.int .i64 X1) (.int .u64 S1) (.bool n2) (.int .i64 K2) (.int .i64 X2) (.int .u64 S2) (.int .i64 w) 147)
  refine (unhide HN _).mono ?_
  rintro _ w1 ⟨rfl, hbl⟩
  have HB := hide (bthen (unhide HB) hbl)
  have HA := hide ((unhide HA).below hbl)
  clear hbl
  obtain ⟨c0, c1, c2, c3, c4, c5, c6, c7, c8⟩ := unhide HA
  go_wp2_with fail
  clear c0 c1 c2 c3 c4 c5 c6 c7 c8
  refine (unhide HC _).mono ?_
  rintro _ w2 ⟨rfl, hbl⟩
  have HB := hide (bthen (unhide HB) hbl)
  have HA := hide ((unhide HA).below hbl)
  clear hbl
  go_wp2_with fail
  go_ret
  exact ⟨rfl, unhide HB⟩
set_option maxRecDepth 100000 in
set_option maxHeartbeats 2000000 in
theorem nearestQ_i1 {w K1 X1 S1 K2 X2 S2 V : Int} {n1 n2 : Bool} (W : World) (HN : Ct 241 #[.agg #[.bool n1, .int .i64 K1, .int .i64 X1, .int .u64 S1, .bool n2, .int .i64 K2, .int .i64 X2, .int .u64 S2, .int .i64 w]] (.bool false)) (HG : Ct 242 #[.agg #[.bool n1, .int .i64 K1, .int .i64 X1, .int .u64 S1, .bool n2, .int .i64 K2, .int .i64 X2, .int .u64 S2, .int .i64 w]] (.bool (n1 != n2))) (a2 : (K1 == 2) = true) (HC : Ct 157 #[.int .i64 w, .bool (n1 != n2)] (.int .u64 V)) :
    Calls Tryz.prog 164 #[.agg #[.bool n1, .int .i64 K1, .int .i64 X1, .int .u64 S1, .bool n2, .int .i64 K2, .int .i64 X2, .int .u64 S2, .int .i64 w]] W fun r W' => r = .returned (.int .u64 V) ∧ Below W.heap.size W W' := by
  go_enter Tryz.func164, Tryz.ntmps164
  go_wp2_with fail
  have HB := hide (below1 W (.cells #[.bool n1, .int .i64 K1, .int .i64 X1, .int .u64 S1, .bool n2, .int .i64 K2, .int .i64 X2, .int .u64 S2, .int .i64 w] 147))
  have HA := hide (at9_new W (.bool n1) (.int .i64 K1) (.int .i64 X1) (.int .u64 S1) (.bool n2) (.int .i64 K2) (.int .i64 X2) (.int .u64 S2) (.int .i64 w) 147)
  refine (unhide HN _).mono ?_
  rintro _ w1 ⟨rfl, hbl⟩
  have HB := hide (bthen (unhide HB) hbl)
  have HA := hide ((unhide HA).below hbl)
  clear hbl
  obtain ⟨c0, c1, c2, c3, c4, c5, c6, c7, c8⟩ := unhide HA
  go_wp2_with fail
  clear c0 c1 c2 c3 c4 c5 c6 c7 c8
  have HB := hide ((unhide HB).drew)
  have HA := hide ((unhide HA).below ((Below.refl _ _).drew))
  refine wp_region_held_drew (S := fun w' => (w'.cell? ⟨W.heap.size, 0, none⟩ = some (.bool n1) ∧ w'.cell? ⟨W.heap.size, 1, none⟩ = some (.int .i64 K1) ∧ w'.cell? ⟨W.heap.size, 2, none⟩ = some (.int .i64 X1) ∧ w'.cell? ⟨W.heap.size, 3, none⟩ = some (.int .u64 S1) ∧ w'.cell? ⟨W.heap.size, 4, none⟩ = some (.bool n2) ∧ w'.cell? ⟨W.heap.size, 5, none⟩ = some (.int .i64 K2) ∧ w'.cell? ⟨W.heap.size, 6, none⟩ = some (.int .i64 X2) ∧ w'.cell? ⟨W.heap.size, 7, none⟩ = some (.int .u64 S2) ∧ w'.cell? ⟨W.heap.size, 8, none⟩ = some (.int .i64 w))) (by kernel_rfl) ?_ (fun hHeld => ?_)
  · (try dsimp only)
    exact unhide HA
  refine lst0 6 (by kernel_rfl) ?_
  refine tkA 0 26 1 ?_
  refine tkA 1 27 3 ?_
  refine tkA 2 28 7 ?_
  refine rdA 3 15 (fun Kk hKk => ?_)
  go_simp
  refine (unhide HG _).mono ?_
  rintro _ w2 ⟨rfl, hbl⟩
  have HB := hide (bthen (unhide HB) hbl)
  have HA := hide ((unhide HA).below hbl)
  clear hbl
  (try go_wp2_with fail)
  refine hKk.out _ _ ?_ (fun hHeld => ?_)
  · (try dsimp only)
    exact unhide HA
  clear hKk Kk
  (try simp only [List.setIfInBounds_toArray, List.set_cons_zero, List.set_cons_succ])
  refine rdA 4 31 (fun Kk hKk => ?_)
  go_simp
  refine (unhide HC _).mono ?_
  rintro _ w3 ⟨rfl, hbl⟩
  have HB := hide (bthen (unhide HB) hbl)
  have HA := hide ((unhide HA).below hbl)
  clear hbl
  (try go_wp2_with fail)
  refine hKk.out _ _ ?_ (fun hHeld => ?_)
  · (try dsimp only)
    exact unhide HA
  clear hKk Kk
  (try simp only [List.setIfInBounds_toArray, List.set_cons_zero, List.set_cons_succ])
  refine tkA 5 2 63 ?_
  refine wpAnyH_done (by kernel_rfl) ?_ _
  go_wp2
  go_ret
  exact ⟨rfl, unhide HB⟩
set_option maxRecDepth 100000 in
set_option maxHeartbeats 2000000 in
theorem nearestQ_i2 {w K1 X1 S1 K2 X2 S2 V : Int} {n1 n2 : Bool} (W : World) (HN : Ct 241 #[.agg #[.bool n1, .int .i64 K1, .int .i64 X1, .int .u64 S1, .bool n2, .int .i64 K2, .int .i64 X2, .int .u64 S2, .int .i64 w]] (.bool false)) (HG : Ct 242 #[.agg #[.bool n1, .int .i64 K1, .int .i64 X1, .int .u64 S1, .bool n2, .int .i64 K2, .int .i64 X2, .int .u64 S2, .int .i64 w]] (.bool (n1 != n2))) (a2 : (K1 == 2) = false) (b0 : (K2 == 0) = true) (HC : Ct 157 #[.int .i64 w, .bool (n1 != n2)] (.int .u64 V)) :
    Calls Tryz.prog 164 #[.agg #[.bool n1, .int .i64 K1, .int .i64 X1, .int .u64 S1, .bool n2, .int .i64 K2, .int .i64 X2, .int .u64 S2, .int .i64 w]] W fun r W' => r = .returned (.int .u64 V) ∧ Below W.heap.size W W' := by
  go_enter Tryz.func164, Tryz.ntmps164
  go_wp2_with fail
  have HB := hide (below1 W (.cells #[.bool n1, .int .i64 K1, .int .i64 X1, .int .u64 S1, .bool n2, .int .i64 K2, .int .i64 X2, .int .u64 S2, .int .i64 w] 147))
  have HA := hide (at9_new W (.bool n1) (.int .i64 K1) (.int .i64 X1) (.int .u64 S1) (.bool n2) (.int .i64 K2) (.int .i64 X2) (.int .u64 S2) (.int .i64 w) 147)
  refine (unhide HN _).mono ?_
  rintro _ w1 ⟨rfl, hbl⟩
  have HB := hide (bthen (unhide HB) hbl)
  have HA := hide ((unhide HA).below hbl)
  clear hbl
  obtain ⟨c0, c1, c2, c3, c4, c5, c6, c7, c8⟩ := unhide HA
  go_wp2_with fail
  clear c0 c1 c2 c3 c4 c5 c6 c7 c8
  have HB := hide ((unhide HB).drew)
  have HA := hide ((unhide HA).below ((Below.refl _ _).drew))
  refine wp_region_held_drew (S := fun w' => (w'.cell? ⟨W.heap.size, 0, none⟩ = some (.bool n1) ∧ w'.cell? ⟨W.heap.size, 1, none⟩ = some (.int .i64 K1) ∧ w'.cell? ⟨W.heap.size, 2, none⟩ = some (.int .i64 X1) ∧ w'.cell? ⟨W.heap.size, 3, none⟩ = some (.int .u64 S1) ∧ w'.cell? ⟨W.heap.size, 4, none⟩ = some (.bool n2) ∧ w'.cell? ⟨W.heap.size, 5, none⟩ = some (.int .i64 K2) ∧ w'.cell? ⟨W.heap.size, 6, none⟩ = some (.int .i64 X2) ∧ w'.cell? ⟨W.heap.size, 7, none⟩ = some (.int .u64 S2) ∧ w'.cell? ⟨W.heap.size, 8, none⟩ = some (.int .i64 w))) (by kernel_rfl) ?_ (fun hHeld => ?_)
  · (try dsimp only)
    exact unhide HA
  refine lst0 6 (by kernel_rfl) ?_
  refine tkA 0 26 1 ?_
  refine tkA 1 27 3 ?_
  refine tkA 2 28 7 ?_
  refine rdA 3 15 (fun Kk hKk => ?_)
  go_simp
  refine (unhide HG _).mono ?_
  rintro _ w2 ⟨rfl, hbl⟩
  have HB := hide (bthen (unhide HB) hbl)
  have HA := hide ((unhide HA).below hbl)
  clear hbl
  (try go_wp2_with fail)
  refine hKk.out _ _ ?_ (fun hHeld => ?_)
  · (try dsimp only)
    exact unhide HA
  clear hKk Kk
  (try simp only [List.setIfInBounds_toArray, List.set_cons_zero, List.set_cons_succ])
  refine rdA 4 31 (fun Kk hKk => ?_)
  go_simp
  refine (unhide HC _).mono ?_
  rintro _ w3 ⟨rfl, hbl⟩
  have HB := hide (bthen (unhide HB) hbl)
  have HA := hide ((unhide HA).below hbl)
  clear hbl
  (try go_wp2_with fail)
  refine hKk.out _ _ ?_ (fun hHeld => ?_)
  · (try dsimp only)
    exact unhide HA
  clear hKk Kk
  (try simp only [List.setIfInBounds_toArray, List.set_cons_zero, List.set_cons_succ])
  refine tkA 5 2 63 ?_
  refine wpAnyH_done (by kernel_rfl) ?_ _
  go_wp2
  go_ret
  exact ⟨rfl, unhide HB⟩
set_option maxRecDepth 100000 in
set_option maxHeartbeats 2000000 in
theorem nearestQ_z1 {w K1 X1 S1 K2 X2 S2 V : Int} {n1 n2 : Bool} (W : World) (HN : Ct 241 #[.agg #[.bool n1, .int .i64 K1, .int .i64 X1, .int .u64 S1, .bool n2, .int .i64 K2, .int .i64 X2, .int .u64 S2, .int .i64 w]] (.bool false)) (HG : Ct 242 #[.agg #[.bool n1, .int .i64 K1, .int .i64 X1, .int .u64 S1, .bool n2, .int .i64 K2, .int .i64 X2, .int .u64 S2, .int .i64 w]] (.bool (n1 != n2))) (a2 : (K1 == 2) = false) (b0 : (K2 == 0) = false) (a0 : (K1 == 0) = true) (HC : Ct 155 #[.int .i64 w, .bool (n1 != n2)] (.int .u64 V)) :
    Calls Tryz.prog 164 #[.agg #[.bool n1, .int .i64 K1, .int .i64 X1, .int .u64 S1, .bool n2, .int .i64 K2, .int .i64 X2, .int .u64 S2, .int .i64 w]] W fun r W' => r = .returned (.int .u64 V) ∧ Below W.heap.size W W' := by
  go_enter Tryz.func164, Tryz.ntmps164
  go_wp2_with fail
  have HB := hide (below1 W (.cells #[.bool n1, .int .i64 K1, .int .i64 X1, .int .u64 S1, .bool n2, .int .i64 K2, .int .i64 X2, .int .u64 S2, .int .i64 w] 147))
  have HA := hide (at9_new W (.bool n1) (.int .i64 K1) (.int .i64 X1) (.int .u64 S1) (.bool n2) (.int .i64 K2) (.int .i64 X2) (.int .u64 S2) (.int .i64 w) 147)
  refine (unhide HN _).mono ?_
  rintro _ w1 ⟨rfl, hbl⟩
  have HB := hide (bthen (unhide HB) hbl)
  have HA := hide ((unhide HA).below hbl)
  clear hbl
  obtain ⟨c0, c1, c2, c3, c4, c5, c6, c7, c8⟩ := unhide HA
  go_wp2_with fail
  clear c0 c1 c2 c3 c4 c5 c6 c7 c8
  have HB := hide ((unhide HB).drew)
  have HA := hide ((unhide HA).below ((Below.refl _ _).drew))
  refine wp_region_held_drew (S := fun w' => (w'.cell? ⟨W.heap.size, 0, none⟩ = some (.bool n1) ∧ w'.cell? ⟨W.heap.size, 1, none⟩ = some (.int .i64 K1) ∧ w'.cell? ⟨W.heap.size, 2, none⟩ = some (.int .i64 X1) ∧ w'.cell? ⟨W.heap.size, 3, none⟩ = some (.int .u64 S1) ∧ w'.cell? ⟨W.heap.size, 4, none⟩ = some (.bool n2) ∧ w'.cell? ⟨W.heap.size, 5, none⟩ = some (.int .i64 K2) ∧ w'.cell? ⟨W.heap.size, 6, none⟩ = some (.int .i64 X2) ∧ w'.cell? ⟨W.heap.size, 7, none⟩ = some (.int .u64 S2) ∧ w'.cell? ⟨W.heap.size, 8, none⟩ = some (.int .i64 w))) (by kernel_rfl) ?_ (fun hHeld => ?_)
  · (try dsimp only)
    exact unhide HA
  refine lst0 6 (by kernel_rfl) ?_
  refine tkA 0 44 1 ?_
  refine tkA 1 45 3 ?_
  refine tkA 2 46 7 ?_
  refine rdA 3 15 (fun Kk hKk => ?_)
  go_simp
  refine (unhide HG _).mono ?_
  rintro _ w2 ⟨rfl, hbl⟩
  have HB := hide (bthen (unhide HB) hbl)
  have HA := hide ((unhide HA).below hbl)
  clear hbl
  (try go_wp2_with fail)
  refine hKk.out _ _ ?_ (fun hHeld => ?_)
  · (try dsimp only)
    exact unhide HA
  clear hKk Kk
  (try simp only [List.setIfInBounds_toArray, List.set_cons_zero, List.set_cons_succ])
  refine rdA 4 31 (fun Kk hKk => ?_)
  go_simp
  refine (unhide HC _).mono ?_
  rintro _ w3 ⟨rfl, hbl⟩
  have HB := hide (bthen (unhide HB) hbl)
  have HA := hide ((unhide HA).below hbl)
  clear hbl
  (try go_wp2_with fail)
  refine hKk.out _ _ ?_ (fun hHeld => ?_)
  · (try dsimp only)
    exact unhide HA
  clear hKk Kk
  (try simp only [List.setIfInBounds_toArray, List.set_cons_zero, List.set_cons_succ])
  refine tkA 5 2 63 ?_
  refine wpAnyH_done (by kernel_rfl) ?_ _
  go_wp2
  go_ret
  exact ⟨rfl, unhide HB⟩
set_option maxRecDepth 100000 in
set_option maxHeartbeats 2000000 in
theorem nearestQ_z2 {w K1 X1 S1 K2 X2 S2 V : Int} {n1 n2 : Bool} (W : World) (HN : Ct 241 #[.agg #[.bool n1, .int .i64 K1, .int .i64 X1, .int .u64 S1, .bool n2, .int .i64 K2, .int .i64 X2, .int .u64 S2, .int .i64 w]] (.bool false)) (HG : Ct 242 #[.agg #[.bool n1, .int .i64 K1, .int .i64 X1, .int .u64 S1, .bool n2, .int .i64 K2, .int .i64 X2, .int .u64 S2, .int .i64 w]] (.bool (n1 != n2))) (a2 : (K1 == 2) = false) (b0 : (K2 == 0) = false) (a0 : (K1 == 0) = false) (b2 : (K2 == 2) = true) (HC : Ct 155 #[.int .i64 w, .bool (n1 != n2)] (.int .u64 V)) :
    Calls Tryz.prog 164 #[.agg #[.bool n1, .int .i64 K1, .int .i64 X1, .int .u64 S1, .bool n2, .int .i64 K2, .int .i64 X2, .int .u64 S2, .int .i64 w]] W fun r W' => r = .returned (.int .u64 V) ∧ Below W.heap.size W W' := by
  go_enter Tryz.func164, Tryz.ntmps164
  go_wp2_with fail
  have HB := hide (below1 W (.cells #[.bool n1, .int .i64 K1, .int .i64 X1, .int .u64 S1, .bool n2, .int .i64 K2, .int .i64 X2, .int .u64 S2, .int .i64 w] 147))
  have HA := hide (at9_new W (.bool n1) (.int .i64 K1) (.int .i64 X1) (.int .u64 S1) (.bool n2) (.int .i64 K2) (.int .i64 X2) (.int .u64 S2) (.int .i64 w) 147)
  refine (unhide HN _).mono ?_
  rintro _ w1 ⟨rfl, hbl⟩
  have HB := hide (bthen (unhide HB) hbl)
  have HA := hide ((unhide HA).below hbl)
  clear hbl
  obtain ⟨c0, c1, c2, c3, c4, c5, c6, c7, c8⟩ := unhide HA
  go_wp2_with fail
  clear c0 c1 c2 c3 c4 c5 c6 c7 c8
  have HB := hide ((unhide HB).drew)
  have HA := hide ((unhide HA).below ((Below.refl _ _).drew))
  refine wp_region_held_drew (S := fun w' => (w'.cell? ⟨W.heap.size, 0, none⟩ = some (.bool n1) ∧ w'.cell? ⟨W.heap.size, 1, none⟩ = some (.int .i64 K1) ∧ w'.cell? ⟨W.heap.size, 2, none⟩ = some (.int .i64 X1) ∧ w'.cell? ⟨W.heap.size, 3, none⟩ = some (.int .u64 S1) ∧ w'.cell? ⟨W.heap.size, 4, none⟩ = some (.bool n2) ∧ w'.cell? ⟨W.heap.size, 5, none⟩ = some (.int .i64 K2) ∧ w'.cell? ⟨W.heap.size, 6, none⟩ = some (.int .i64 X2) ∧ w'.cell? ⟨W.heap.size, 7, none⟩ = some (.int .u64 S2) ∧ w'.cell? ⟨W.heap.size, 8, none⟩ = some (.int .i64 w))) (by kernel_rfl) ?_ (fun hHeld => ?_)
  · (try dsimp only)
    exact unhide HA
  refine lst0 6 (by kernel_rfl) ?_
  refine tkA 0 44 1 ?_
  refine tkA 1 45 3 ?_
  refine tkA 2 46 7 ?_
  refine rdA 3 15 (fun Kk hKk => ?_)
  go_simp
  refine (unhide HG _).mono ?_
  rintro _ w2 ⟨rfl, hbl⟩
  have HB := hide (bthen (unhide HB) hbl)
  have HA := hide ((unhide HA).below hbl)
  clear hbl
  (try go_wp2_with fail)
  refine hKk.out _ _ ?_ (fun hHeld => ?_)
  · (try dsimp only)
    exact unhide HA
  clear hKk Kk
  (try simp only [List.setIfInBounds_toArray, List.set_cons_zero, List.set_cons_succ])
  refine rdA 4 31 (fun Kk hKk => ?_)
  go_simp
  refine (unhide HC _).mono ?_
  rintro _ w3 ⟨rfl, hbl⟩
  have HB := hide (bthen (unhide HB) hbl)
  have HA := hide ((unhide HA).below hbl)
  clear hbl
  (try go_wp2_with fail)
  refine hKk.out _ _ ?_ (fun hHeld => ?_)
  · (try dsimp only)
    exact unhide HA
  clear hKk Kk
  (try simp only [List.setIfInBounds_toArray, List.set_cons_zero, List.set_cons_succ])
  refine tkA 5 2 63 ?_
  refine wpAnyH_done (by kernel_rfl) ?_ _
  go_wp2
  go_ret
  exact ⟨rfl, unhide HB⟩
set_option maxRecDepth 100000 in
set_option maxHeartbeats 2000000 in
theorem nearestQ_fin {w K1 X1 S1 K2 X2 S2 E Y h l h' l' V : Int} {n1 n2 m : Bool} (W : World) (HN : Ct 241 #[.agg #[.bool n1, .int .i64 K1, .int .i64 X1, .int .u64 S1, .bool n2, .int .i64 K2, .int .i64 X2, .int .u64 S2, .int .i64 w]] (.bool false)) (HG : Ct 242 #[.agg #[.bool n1, .int .i64 K1, .int .i64 X1, .int .u64 S1, .bool n2, .int .i64 K2, .int .i64 X2, .int .u64 S2, .int .i64 w]] (.bool (n1 != n2))) (a2 : (K1 == 2) = false) (b0 : (K2 == 0) = false) (a0 : (K1 == 0) = false) (b2 : (K2 == 2) = false) (HR : Ct 243 #[.agg #[.bool n1, .int .i64 K1, .int .i64 X1, .int .u64 S1]] (.tuple #[.agg #[.int .u64 h, .int .u64 l], .int .i64 E])) (HI : Ct 244 #[.agg #[.bool n2, .int .i64 K2, .int .i64 X2, .int .u64 S2], .agg #[.int .u64 h, .int .u64 l]] (.tuple #[.agg #[.int .u64 h', .int .u64 l'], .bool m])) (kx : IntKind.i64.wrap (E - X2) = Y) (HC : Ct 160 #[.int .i64 w, .bool (n1 != n2), .agg #[.int .u64 h', .int .u64 l'], .int .i64 Y, .bool m] (.int .u64 V)) :
    Calls Tryz.prog 164 #[.agg #[.bool n1, .int .i64 K1, .int .i64 X1, .int .u64 S1, .bool n2, .int .i64 K2, .int .i64 X2, .int .u64 S2, .int .i64 w]] W fun r W' => r = .returned (.int .u64 V) ∧ Below W.heap.size W W' := by
  go_enter Tryz.func164, Tryz.ntmps164
  go_wp2_with fail
  have HB := hide (below1 W (.cells #[.bool n1, .int .i64 K1, .int .i64 X1, .int .u64 S1, .bool n2, .int .i64 K2, .int .i64 X2, .int .u64 S2, .int .i64 w] 147))
  have HA := hide (at9_new W (.bool n1) (.int .i64 K1) (.int .i64 X1) (.int .u64 S1) (.bool n2) (.int .i64 K2) (.int .i64 X2) (.int .u64 S2) (.int .i64 w) 147)
  refine (unhide HN _).mono ?_
  rintro _ w1 ⟨rfl, hbl⟩
  have HB := hide (bthen (unhide HB) hbl)
  have HA := hide ((unhide HA).below hbl)
  clear hbl
  obtain ⟨c0, c1, c2, c3, c4, c5, c6, c7, c8⟩ := unhide HA
  go_wp2_with fail
  clear c0 c1 c2 c3 c4 c5 c6 c7 c8
  refine (unhide HR _).mono ?_
  rintro _ w2 ⟨rfl, hbl⟩
  have HB := hide (bthen (unhide HB) hbl)
  have HA := hide ((unhide HA).below hbl)
  clear hbl
  have HB := hide (balloc (unhide HB) (.cells #[.int .u64 h, .int .u64 l] 135))
  have HA := hide ((unhide HA).below (below1 _ (.cells #[.int .u64 h, .int .u64 l] 135)))
  obtain ⟨c0, c1, c2, c3, c4, c5, c6, c7, c8⟩ := unhide HA
  go_wp2_with fail
  clear c0 c1 c2 c3 c4 c5 c6 c7 c8
  refine (unhide HI _).mono ?_
  rintro _ w3 ⟨rfl, hbl⟩
  have HB := hide (bthen (unhide HB) hbl)
  have HA := hide ((unhide HA).below hbl)
  clear hbl
  have HB := hide (balloc (unhide HB) (.cells #[.int .u64 h', .int .u64 l'] 135))
  have HA := hide ((unhide HA).below (below1 _ (.cells #[.int .u64 h', .int .u64 l'] 135)))
  have H2 := hide (at2_new w3 (.int .u64 h') (.int .u64 l') 135)
  go_wp2_with fail
  have HB := hide ((unhide HB).drew)
  have HA := hide ((unhide HA).below ((Below.refl _ _).drew))
  have H2 := hide ((unhide H2).below ((Below.refl _ _).drew))
  refine wp_region_held_drew (S := fun w' => (w'.cell? ⟨W.heap.size, 0, none⟩ = some (.bool n1) ∧ w'.cell? ⟨W.heap.size, 1, none⟩ = some (.int .i64 K1) ∧ w'.cell? ⟨W.heap.size, 2, none⟩ = some (.int .i64 X1) ∧ w'.cell? ⟨W.heap.size, 3, none⟩ = some (.int .u64 S1) ∧ w'.cell? ⟨W.heap.size, 4, none⟩ = some (.bool n2) ∧ w'.cell? ⟨W.heap.size, 5, none⟩ = some (.int .i64 K2) ∧ w'.cell? ⟨W.heap.size, 6, none⟩ = some (.int .i64 X2) ∧ w'.cell? ⟨W.heap.size, 7, none⟩ = some (.int .u64 S2) ∧ w'.cell? ⟨W.heap.size, 8, none⟩ = some (.int .i64 w)) ∧ (w'.cell? ⟨w3.heap.size, 0, none⟩ = some (.int .u64 h') ∧ w'.cell? ⟨w3.heap.size, 1, none⟩ = some (.int .u64 l'))) (by kernel_rfl) ?_ (fun hHeld => ?_)
  · (try dsimp only)
    exact ⟨unhide HA, unhide H2⟩
  refine lst0 14 (by kernel_rfl) ?_
  refine tkA 0 62 1 ?_
  refine tkA 1 63 3 ?_
  refine tkA 2 64 7 ?_
  refine tkA 4 66 23 ?_
  refine tkA 5 67 55 ?_
  refine tkA 6 68 119 ?_
  refine tkA 7 69 247 ?_
  refine tkA 8 70 503 ?_
  refine tkA 9 71 1015 ?_
  refine tkA 10 72 2039 ?_
  refine tkA 11 73 4087 ?_
  refine rdA 3 4095 (fun Kk hKk => ?_)
  go_simp
  refine (unhide HG _).mono ?_
  rintro _ w4 ⟨rfl, hbl⟩
  have HB := hide (bthen (unhide HB) hbl)
  have HA := hide ((unhide HA).below hbl)
  have H2 := hide ((unhide H2).below hbl)
  clear hbl
  (try go_wp2_with fail)
  refine hKk.out _ _ ?_ (fun hHeld => ?_)
  · (try dsimp only)
    exact ⟨unhide HA, unhide H2⟩
  clear hKk Kk
  (try simp only [List.setIfInBounds_toArray, List.set_cons_zero, List.set_cons_succ])
  refine rdA 12 8191 (fun Kk hKk => ?_)
  go_simp
  refine (unhide HC _).mono ?_
  rintro _ w5 ⟨rfl, hbl⟩
  have HB := hide (bthen (unhide HB) hbl)
  have HA := hide ((unhide HA).below hbl)
  have H2 := hide ((unhide H2).below hbl)
  clear hbl
  (try go_wp2_with fail)
  refine hKk.out _ _ ?_ (fun hHeld => ?_)
  · (try dsimp only)
    exact ⟨unhide HA, unhide H2⟩
  clear hKk Kk
  (try simp only [List.setIfInBounds_toArray, List.set_cons_zero, List.set_cons_succ])
  refine tkA 13 2 16383 ?_
  refine wpAnyH_done (by kernel_rfl) ?_ _
  go_wp2
  go_ret
  exact ⟨rfl, unhide HB⟩
set_option maxRecDepth 100000 in
set_option maxHeartbeats 2000000 in
theorem quoDiv_l {w x y K1 X1 S1 K2 X2 S2 V : Int} {n1 n2 : Bool} (W : World) (HO1 : Ct 15 #[.int .i64 w, .int .u64 x] (.agg #[.bool n1, .int .i64 K1, .int .i64 X1, .int .u64 S1])) (HO2 : Ct 15 #[.int .i64 w, .int .u64 y] (.agg #[.bool n2, .int .i64 K2, .int .i64 X2, .int .u64 S2])) (HP : Ct 164 #[.agg #[.bool n1, .int .i64 K1, .int .i64 X1, .int .u64 S1, .bool n2, .int .i64 K2, .int .i64 X2, .int .u64 S2, .int .i64 w]] (.int .u64 V)) :
    Calls Tryz.prog 88 #[.int .i64 w, .int .u64 x, .int .u64 y] W fun r W' => r = .returned (.int .u64 V) ∧ Below W.heap.size W W' := by
  go_enter Tryz.func88, Tryz.ntmps88
  go_wp2_with fail
  refine (unhide HO1 _).mono ?_
  rintro _ w1 ⟨rfl, hb1⟩
  go_wp2_with fail
  refine (unhide HO2 _).mono ?_
  rintro _ w2 ⟨rfl, hb2⟩
  go_wp2_with fail
  refine (unhide HP _).mono ?_
  rintro _ w3 ⟨rfl, hb3⟩
  go_wp2_with fail
  go_ret
  exact ⟨rfl, bthen (balloc (bthen hb1 hb2) (.cells #[.bool n1, .int .i64 K1, .int .i64 X1, .int .u64 S1, .bool n2, .int .i64 K2, .int .i64 X2, .int .u64 S2, .int .i64 w] 147)) hb3⟩
end Go.Proofs.YtpbgpdmffejdgaaGreatDoor
