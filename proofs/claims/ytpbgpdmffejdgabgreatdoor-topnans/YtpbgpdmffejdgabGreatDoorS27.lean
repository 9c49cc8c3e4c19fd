/- Float, QuoC, RadC, RadS. -/
import Derived.Test.YtpbgpdmffejdgabGreatDoorS01
import Derived.Test.YtpbgpdmffejdgabGreatDoorS13
import Derived.Test.YtpbgpdmffejdgabGreatDoorS14
import Derived.Test.YtpbgpdmffejdgabGreatDoorS17
import Derived.Test.YtpbgpdmffejdgabGreatDoorS19
import Derived.Test.YtpbgpdmffejdgabGreatDoorS21
import Derived.Test.YtpbgpdmffejdgabGreatDoorS25
import Derived.WalkMore
import Derived.Deep.Cut
import Derived.Deep.DeepCutAuto
namespace Go.Proofs.YtpbgpdmffejdgabGreatDoor
open Go.RowKit

/-- A block of nine values. -/
def At9 (b : Nat) (x0 x1 x2 x3 x4 x5 x6 x7 x8 : Value) (w : World) : Prop :=
  w.cell? ⟨b, 0, none⟩ = some x0 ∧ w.cell? ⟨b, 1, none⟩ = some x1 ∧ w.cell? ⟨b, 2, none⟩ = some x2 ∧ w.cell? ⟨b, 3, none⟩ = some x3 ∧ w.cell? ⟨b, 4, none⟩ = some x4 ∧
  w.cell? ⟨b, 5, none⟩ = some x5 ∧ w.cell? ⟨b, 6, none⟩ = some x6 ∧ w.cell? ⟨b, 7, none⟩ = some x7 ∧ w.cell? ⟨b, 8, none⟩ = some x8
theorem At9.below {b : Nat} {x0 x1 x2 x3 x4 x5 x6 x7 x8 : Value} {w w' : World} (h : At9 b x0 x1 x2 x3 x4 x5 x6 x7 x8 w) (hb : Below w.heap.size w w') : At9 b x0 x1 x2 x3 x4 x5 x6 x7 x8 w' :=
  have hz := lt_of_cell h.1
  ⟨keep1 hb hz h.1, keep1 hb hz h.2.1, keep1 hb hz h.2.2.1, keep1 hb hz h.2.2.2.1, keep1 hb hz h.2.2.2.2.1, keep1 hb hz h.2.2.2.2.2.1, keep1 hb hz h.2.2.2.2.2.2.1, keep1 hb hz h.2.2.2.2.2.2.2.1, keep1 hb hz h.2.2.2.2.2.2.2.2⟩
theorem at9_new (w : World) (x0 x1 x2 x3 x4 x5 x6 x7 x8 : Value) (t : TypeId) : At9 w.heap.size x0 x1 x2 x3 x4 x5 x6 x7 x8 (w.alloc (.cells #[x0, x1, x2, x3, x4, x5, x6, x7, x8] t)) := by unfold At9; simp [go_sem]

set_option maxRecDepth 100000 in
set_option maxHeartbeats 2000000 in
theorem float_sz {h l E w f L M S U D V : Int} {n m : Bool} (W : World) (g0 : 0 ≤ f) (g1 : f ≤ 63) (kd : S / 2 ^ f.toNat = D) (d : ¬ 1 < D)
    (z : (S == 0) = true) (HC : Ct 96 #[.int .i64 w, .bool n] (.int .u64 V)) :
    Calls Tryz.prog 168 #[.agg #[.bool n, .int .u64 h, .int .u64 l, .int .i64 E, .bool m, .int .i64 w, .int .i64 f, .int .i64 L, .int .i64 M], .int .u64 S, .int .i64 U] W fun r W' => r = .returned (.int .u64 V) ∧ Below W.heap.size W W' := by
  go_enter Tryz.func168, Tryz.ntmps168
  go_wp2_with fail
  refine (unhide HC _).mono ?_
  rintro _ w1 ⟨rfl, hb⟩
  have HB := hide (bthen (below1 _ _) hb)
  clear hb
  go_wp2_with fail
  go_ret
  exact ⟨rfl, unhide HB⟩
set_option maxRecDepth 100000 in
set_option maxHeartbeats 2000000 in
theorem float_si {h l E w f L M S U D V : Int} {n m : Bool} (W : World) (g0 : 0 ≤ f) (g1 : f ≤ 63) (kd : S / 2 ^ f.toNat = D) (d : ¬ 1 < D)
    (z : (S == 0) = false) (g : decide (M < U) = true) (HC : Ct 97 #[.int .i64 w, .bool n] (.int .u64 V)) :
    Calls Tryz.prog 168 #[.agg #[.bool n, .int .u64 h, .int .u64 l, .int .i64 E, .bool m, .int .i64 w, .int .i64 f, .int .i64 L, .int .i64 M], .int .u64 S, .int .i64 U] W fun r W' => r = .returned (.int .u64 V) ∧ Below W.heap.size W W' := by
  go_enter Tryz.func168, Tryz.ntmps168
  go_wp2_with fail
  refine (unhide HC _).mono ?_
  rintro _ w1 ⟨rfl, hb⟩
  have HB := hide (bthen (below1 _ _) hb)
  clear hb
  go_wp2_with fail
  go_ret
  exact ⟨rfl, unhide HB⟩
set_option maxRecDepth 100000 in
set_option maxHeartbeats 2000000 in
theorem float_sc {h l E w f L M S U D V c : Int} {n m : Bool} (W : World) (g0 : 0 ≤ f) (g1 : f ≤ 63) (kd : S / 2 ^ f.toNat = D) (d : ¬ 1 < D)
    (z : (S == 0) = false) (g : decide (M < U) = false) (HC : Ct 177 #[.int .i64 w, .agg #[.bool n, .int .i64 1, .int .i64 U, .int .u64 S]] (.tuple #[.int .u64 V, .int .i64 c])) :
    Calls Tryz.prog 168 #[.agg #[.bool n, .int .u64 h, .int .u64 l, .int .i64 E, .bool m, .int .i64 w, .int .i64 f, .int .i64 L, .int .i64 M], .int .u64 S, .int .i64 U] W fun r W' => r = .returned (.int .u64 V) ∧ Below W.heap.size W W' := by
  go_enter Tryz.func168, Tryz.ntmps168
  go_wp2_with fail
  refine (unhide HC _).mono ?_
  rintro _ w1 ⟨rfl, hb⟩
  have HB := hide (bthen (below1 _ _) hb)
  clear hb
  go_wp2_with fail
  go_ret
  exact ⟨rfl, unhide HB⟩
set_option maxRecDepth 100000 in
set_option maxHeartbeats 2000000 in
theorem float_bi {h l E w f L M S U D V S2 : Int} {n m : Bool} (W : World) (g0 : 0 ≤ f) (g1 : f ≤ 63) (kd : S / 2 ^ f.toNat = D) (d : 1 < D) (k2 : S / 2 = S2) (ku : IntKind.i64.wrap (U + 1) = U + 1)
    (z : (S2 == 0) = false) (g : decide (M < (U + 1)) = true) (HC : Ct 97 #[.int .i64 w, .bool n] (.int .u64 V)) :
    Calls Tryz.prog 168 #[.agg #[.bool n, .int .u64 h, .int .u64 l, .int .i64 E, .bool m, .int .i64 w, .int .i64 f, .int .i64 L, .int .i64 M], .int .u64 S, .int .i64 U] W fun r W' => r = .returned (.int .u64 V) ∧ Below W.heap.size W W' := by
  go_enter Tryz.func168, Tryz.ntmps168
  go_wp2_with fail
  refine (unhide HC _).mono ?_
  rintro _ w1 ⟨rfl, hb⟩
  have HB := hide (bthen (below1 _ _) hb)
  clear hb
  go_wp2_with fail
  go_ret
  exact ⟨rfl, unhide HB⟩
set_option maxRecDepth 100000 in
set_option maxHeartbeats 2000000 in
theorem float_bc {h l E w f L M S U D V S2 c : Int} {n m : Bool} (W : World) (g0 : 0 ≤ f) (g1 : f ≤ 63) (kd : S / 2 ^ f.toNat = D) (d : 1 < D) (k2 : S / 2 = S2) (ku : IntKind.i64.wrap (U + 1) = U + 1)
    (z : (S2 == 0) = false) (g : decide (M < (U + 1)) = false) (HC : Ct 177 #[.int .i64 w, .agg #[.bool n, .int .i64 1, .int .i64 (U + 1), .int .u64 S2]] (.tuple #[.int .u64 V, .int .i64 c])) :
    Calls Tryz.prog 168 #[.agg #[.bool n, .int .u64 h, .int .u64 l, .int .i64 E, .bool m, .int .i64 w, .int .i64 f, .int .i64 L, .int .i64 M], .int .u64 S, .int .i64 U] W fun r W' => r = .returned (.int .u64 V) ∧ Below W.heap.size W W' := by
  go_enter Tryz.func168, Tryz.ntmps168
  go_wp2_with fail
  refine (unhide HC _).mono ?_
  rintro _ w1 ⟨rfl, hb⟩
  have HB := hide (bthen (below1 _ _) hb)
  clear hb
  go_wp2_with fail
  go_ret
  exact ⟨rfl, unhide HB⟩

end Go.Proofs.YtpbgpdmffejdgabGreatDoor
namespace Go.Proofs.YtpbgpdmffejdgabGreatDoor
open Go.RowKit
open Go.Proofs.YtpbgpdmffejdgabGreatDoor.W

set_option maxRecDepth 100000 in
set_option maxHeartbeats 2000000 in
theorem isNeg_l {w K1 X1 S1 K2 X2 S2 : Int} {n1 n2 : Bool} (W : World) :
    Calls Tryz.prog 152 #[.agg #[.bool n1, .int .i64 K1, .int .i64 X1, .int .u64 S1, .bool n2, .int .i64 K2, .int .i64 X2, .int .u64 S2, .int .i64 w]] W fun r W' => r = .returned (.bool (n1 != n2)) ∧ Below W.heap.size W W' := by
  go_enter Tryz.func152, Tryz.ntmps152
  go_wp2_with fail
  go_ret
  exact ⟨rfl, below1 W (.cells #[.bool n1, .int .i64 K1, .int .i64 X1, .int .u64 S1, .bool n2, .int .i64 K2, .int .i64 X2, .int .u64 S2, .int .i64 w] 98)⟩
set_option maxRecDepth 100000 in
set_option maxHeartbeats 2000000 in
theorem isNone_same {w K1 X1 S1 K2 X2 S2 : Int} {n1 n2 : Bool} (W : World) (h : (K1 == K2) = true) :
    Calls Tryz.prog 151 #[.agg #[.bool n1, .int .i64 K1, .int .i64 X1, .int .u64 S1, .bool n2, .int .i64 K2, .int .i64 X2, .int .u64 S2, .int .i64 w]] W fun r W' => r = .returned (.bool (K1 != 1)) ∧ Below W.heap.size W W' := by
  go_enter Tryz.func151, Tryz.ntmps151
  go_wp2_with fail
  go_ret
  exact ⟨rfl, below1 W (.cells #[.bool n1, .int .i64 K1, .int .i64 X1, .int .u64 S1, .bool n2, .int .i64 K2, .int .i64 X2, .int .u64 S2, .int .i64 w] 98)⟩
set_option maxRecDepth 100000 in
set_option maxHeartbeats 2000000 in
theorem isNone_one {w K1 X1 S1 K2 X2 S2 : Int} {n1 n2 : Bool} (W : World) (h : (K1 == K2) = false) (h1 : (K1 == 3) = true) :
    Calls Tryz.prog 151 #[.agg #[.bool n1, .int .i64 K1, .int .i64 X1, .int .u64 S1, .bool n2, .int .i64 K2, .int .i64 X2, .int .u64 S2, .int .i64 w]] W fun r W' => r = .returned (.bool true) ∧ Below W.heap.size W W' := by
  go_enter Tryz.func151, Tryz.ntmps151
  go_wp2_with fail
  go_ret
  exact ⟨rfl, below1 W (.cells #[.bool n1, .int .i64 K1, .int .i64 X1, .int .u64 S1, .bool n2, .int .i64 K2, .int .i64 X2, .int .u64 S2, .int .i64 w] 98)⟩
set_option maxRecDepth 100000 in
set_option maxHeartbeats 2000000 in
theorem isNone_two {w K1 X1 S1 K2 X2 S2 : Int} {n1 n2 : Bool} (W : World) (h : (K1 == K2) = false) (h1 : (K1 == 3) = false) :
    Calls Tryz.prog 151 #[.agg #[.bool n1, .int .i64 K1, .int .i64 X1, .int .u64 S1, .bool n2, .int .i64 K2, .int .i64 X2, .int .u64 S2, .int .i64 w]] W fun r W' => r = .returned (.bool (K2 == 3)) ∧ Below W.heap.size W W' := by
  go_enter Tryz.func151, Tryz.ntmps151
  go_wp2_with fail
  go_ret
  exact ⟨rfl, below1 W (.cells #[.bool n1, .int .i64 K1, .int .i64 X1, .int .u64 S1, .bool n2, .int .i64 K2, .int .i64 X2, .int .u64 S2, .int .i64 w] 98)⟩
set_option maxRecDepth 100000 in
set_option maxHeartbeats 2000000 in
theorem raised_l {K1 X1 S1 h l L U h' l' E : Int} {n1 : Bool} (W : World) (HO : Ct 101 #[.int .u64 S1] (.agg #[.int .u64 h, .int .u64 l])) (HL : Ct 143 #[.agg #[.int .u64 h, .int .u64 l]] (.int .i64 L)) (ku : IntKind.i64.wrap (128 - L) = U)
    (HS : Ct 144 #[.agg #[.int .u64 h, .int .u64 l], .int .i64 U] (.agg #[.int .u64 h', .int .u64 l'])) (kx : IntKind.i64.wrap (X1 - U) = E) :
    Calls Tryz.prog 153 #[.agg #[.bool n1, .int .i64 K1, .int .i64 X1, .int .u64 S1]] W fun r W' => r = .returned (.tuple #[.agg #[.int .u64 h', .int .u64 l'], .int .i64 E]) ∧ Below W.heap.size W W' := by
  go_enter Tryz.func153, Tryz.ntmps153
  go_wp2_with fail
  have HB := hide (below2 W (.cells #[.bool n1, .int .i64 K1, .int .i64 X1, .int .u64 S1] 95) (.cells #[.int .u64 0, .int .u64 0] 86))
  have HA := hide (at4_new2a W (.bool n1) (.int .i64 K1) (.int .i64 X1) (.int .u64 S1) 95 (.cells #[.int .u64 0, .int .u64 0] 86))
  have HR : Hid (Room (W.heap.size + 1) 2 ((W.alloc (.cells #[.bool n1, .int .i64 K1, .int .i64 X1, .int .u64 S1] 95)).alloc (.cells #[.int .u64 0, .int .u64 0] 86))) := by
    have := room2_new (W.alloc (.cells #[.bool n1, .int .i64 K1, .int .i64 X1, .int .u64 S1] 95)) (.int .u64 0) (.int .u64 0) 86
    rw [show (W.alloc (.cells #[.bool n1, .int .i64 K1, .int .i64 X1, .int .u64 S1] 95)).heap.size = W.heap.size + 1 by simp] at this
    exact this
  refine (unhide HO _).mono ?_
  rintro _ w1 ⟨rfl, hbl⟩
  have HB := hide (bthen (unhide HB) hbl)
  have HA := hide ((unhide HA).below hbl)
  have HR := hide ((unhide HR).below hbl)
  clear hbl
  obtain ⟨⟨v0, c0⟩, r0⟩ := (unhide HR) 0 (by omega)
  obtain ⟨⟨v1, c1⟩, r1⟩ := (unhide HR) 1 (by omega)
  go_wp2_with fail
  clear c0 c1 r0 r1 v0 v1
  have HB := hide (bset2 (unhide HB) (show W.heap.size ≤ W.heap.size + 1 by omega) (.int .u64 h) (.int .u64 l))
  have HA := hide ((unhide HA).set2 (show W.heap.size ≠ W.heap.size + 1 by omega) (.int .u64 h) (.int .u64 l))
  have H2 := hide (at2_set2 (unhide HR) (.int .u64 h) (.int .u64 l))
  have HR := hide ((unhide HR).set2 (.int .u64 h) (.int .u64 l))
  refine (unhide HL _).mono ?_
  rintro _ w2 ⟨rfl, hbl⟩
  have HB := hide (bthen (unhide HB) hbl)
  have HA := hide ((unhide HA).below hbl)
  have H2 := hide ((unhide H2).below hbl)
  have HR := hide ((unhide HR).below hbl)
  clear hbl
  go_wp2_with fail
  have HB := hide ((unhide HB).drew)
  have HA := hide ((unhide HA).below ((Below.refl _ _).drew))
  have H2 := hide ((unhide H2).below ((Below.refl _ _).drew))
  have HR := hide ((unhide HR).below ((Below.refl _ _).drew))
  obtain ⟨c0, c1, c2, c3⟩ := unhide HA
  obtain ⟨d0, d1⟩ := unhide H2
  go_region_with (first
    | (go_at_call 144; refine (unhide HS _).mono ?_; rintro e w8 ⟨rfl, hbl⟩; have HB8 := hide (bthen (unhide HB) hbl); have HR8 := hide ((unhide HR).below hbl); obtain ⟨e0, e1, e2, e3⟩ := (unhide HA).below hbl; obtain ⟨⟨v0, f0⟩, r0⟩ := (unhide HR8) 0 (by omega); obtain ⟨⟨v1, f1⟩, r1⟩ := (unhide HR8) 1 (by omega); clear hbl))
  all_goals
    go_wp2_with fail
    exact bodyPost_ret (v := .tuple #[.agg #[.int .u64 h', .int .u64 l'], .int .i64 E]) (by simp (maxDischargeDepth := 8) [results, Tryz.results153, go_sem, f0, f1]) rfl ⟨rfl, bset2 (unhide HB8) (show W.heap.size ≤ W.heap.size + 1 by omega) _ _⟩
set_option maxRecDepth 100000 in
set_option maxHeartbeats 2000000 in
theorem into_l {K2 X2 S2 h l h' l' t e : Int} {n2 : Bool} (W : World) (HD : Ct 170 #[.agg #[.int .u64 h, .int .u64 l], .int .u64 S2] (.tuple #[.agg #[.int .u64 h', .int .u64 l'], .int .u64 t, .int .i64 e])) :
    Calls Tryz.prog 154 #[.agg #[.bool n2, .int .i64 K2, .int .i64 X2, .int .u64 S2], .agg #[.int .u64 h, .int .u64 l]] W fun r' W' => r' = .returned (.tuple #[.agg #[.int .u64 h', .int .u64 l'], .bool (t != 0)]) ∧ Below W.heap.size W W' := by
  go_enter Tryz.func154, Tryz.ntmps154
  go_wp2_with fail
  have HB : Hid (Below W.heap.size W (((W.alloc (.cells #[.bool n2, .int .i64 K2, .int .i64 X2, .int .u64 S2] 96)).alloc (.cells #[.int .u64 h, .int .u64 l] 86)).alloc (.cells #[.int .u64 0, .int .u64 0] 86))) := balloc (below2 W (.cells #[.bool n2, .int .i64 K2, .int .i64 X2, .int .u64 S2] 96) (.cells #[.int .u64 h, .int .u64 l] 86)) _
  have HR : Hid (Room (W.heap.size + 1 + 1) 2 (((W.alloc (.cells #[.bool n2, .int .i64 K2, .int .i64 X2, .int .u64 S2] 96)).alloc (.cells #[.int .u64 h, .int .u64 l] 86)).alloc (.cells #[.int .u64 0, .int .u64 0] 86))) := by
    have := room2_new ((W.alloc (.cells #[.bool n2, .int .i64 K2, .int .i64 X2, .int .u64 S2] 96)).alloc (.cells #[.int .u64 h, .int .u64 l] 86)) (.int .u64 0) (.int .u64 0) 86
    rw [show ((W.alloc (.cells #[.bool n2, .int .i64 K2, .int .i64 X2, .int .u64 S2] 96)).alloc (.cells #[.int .u64 h, .int .u64 l] 86)).heap.size = W.heap.size + 1 + 1 by simp] at this
    exact this
  refine (unhide HD _).mono ?_
  rintro _ w1 ⟨rfl, hbl⟩
  have HB := hide (bthen (unhide HB) hbl)
  have HR := hide ((unhide HR).below hbl)
  clear hbl
  obtain ⟨⟨v0, c0⟩, r0⟩ := (unhide HR) 0 (by omega)
  obtain ⟨⟨v1, c1⟩, r1⟩ := (unhide HR) 1 (by omega)
  go_wp2_with fail
  exact bodyPost_ret (v := .tuple #[.agg #[.int .u64 h', .int .u64 l'], .bool (t != 0)]) (by simp (maxDischargeDepth := 8) [results, Tryz.results154, go_sem, c0, c1]) rfl ⟨rfl, bset2 (bset2 (unhide HB) (show W.heap.size ≤ W.heap.size + 1 + 1 by omega) _ _) (show W.heap.size ≤ W.heap.size + 1 + 1 by omega) _ _⟩
set_option maxRecDepth 100000 in
set_option maxHeartbeats 2000000 in
theorem nearestQ_nan {w K1 X1 S1 K2 X2 S2 V : Int} {n1 n2 : Bool} (W : World) (HN : Ct 151 #[.agg #[.bool n1, .int .i64 K1, .int .i64 X1, .int .u64 S1, .bool n2, .int .i64 K2, .int .i64 X2, .int .u64 S2, .int .i64 w]] (.bool true)) (HC : Ct 7 #[.int .i64 w] (.int .u64 V)) :
    Calls Tryz.prog 104 #[.agg #[.bool n1, .int .i64 K1, .int .i64 X1, .int .u64 S1, .bool n2, .int .i64 K2, .int .i64 X2, .int .u64 S2, .int .i64 w]] W fun r W' => r = .returned (.int .u64 V) ∧ Below W.heap.size W W' := by
  go_enter Tryz.func104, Tryz.ntmps104
  go_wp2_with fail
  have HB := hide (below1 W (.cells #[.bool n1, .int .i64 K1, .int .i64 X1, .int .u64 S1, .bool n2, .int .i64 K2, .int .i64 X2, .int .u64 S2, .int .i64 w] 98))
  have HA := hide (at9_new W (.bool n1) (.int .i64 K1) (.int .i64 X1) (.int .u64 S1) (.bool n2) (.int .i64 K2) (.int .i64 X2) (.int .u64 S2) (.int .i64 w) 98)
  refine (unhide HN _).mono ?_
  rintro _ w1 ⟨rfl, hbl⟩
  have HB := hide (bthen (unhide HB) hbl)
  have HA := hide ((unhide HA).below hbl)
  clear hbl
  obtain ⟨c0, c1, c2, c3, c4, c5, c6, c7, c8⟩ := unhide HA
  go_wp2_with fail
  clear c0 c1 c2 c3 c4 c5 c6 c7 c8
  refine (unhide HC _).mono ?_
  rintro _ w2 ⟨rfl, hbl⟩
  have HB := hide (bthen (unhide HB) hbl)
  have HA := hide ((unhide HA).below hbl)
  clear hbl
  go_wp2_with fail
  go_ret
  exact ⟨rfl, unhide HB⟩
set_option maxRecDepth 100000 in
set_option maxHeartbeats 2000000 in
theorem nearestQ_i1 {w K1 X1 S1 K2 X2 S2 V : Int} {n1 n2 : Bool} (W : World) (HN : Ct 151 #[.agg #[.bool n1, .int .i64 K1, .int .i64 X1, .int .u64 S1, .bool n2, .int .i64 K2, .int .i64 X2, .int .u64 S2, .int .i64 w]] (.bool false)) (HG : Ct 152 #[.agg #[.bool n1, .int .i64 K1, .int .i64 X1, .int .u64 S1, .bool n2, .int .i64 K2, .int .i64 X2, .int .u64 S2, .int .i64 w]] (.bool (n1 != n2))) (a2 : (K1 == 2) = true) (HC : Ct 97 #[.int .i64 w, .bool (n1 != n2)] (.int .u64 V)) :
    Calls Tryz.prog 104 #[.agg #[.bool n1, .int .i64 K1, .int .i64 X1, .int .u64 S1, .bool n2, .int .i64 K2, .int .i64 X2, .int .u64 S2, .int .i64 w]] W fun r W' => r = .returned (.int .u64 V) ∧ Below W.heap.size W W' := by
  go_enter Tryz.func104, Tryz.ntmps104
  go_wp2_with fail
  have HB := hide (below1 W (.cells #[.bool n1, .int .i64 K1, .int .i64 X1, .int .u64 S1, .bool n2, .int .i64 K2, .int .i64 X2, .int .u64 S2, .int .i64 w] 98))
  have HA := hide (at9_new W (.bool n1) (.int .i64 K1) (.int .i64 X1) (.int .u64 S1) (.bool n2) (.int .i64 K2) (.int .i64 X2) (.int .u64 S2) (.int .i64 w) 98)
  refine (unhide HN _).mono ?_
  rintro _ w1 ⟨rfl, hbl⟩
  have HB := hide (bthen (unhide HB) hbl)
  have HA := hide ((unhide HA).below hbl)
  clear hbl
  obtain ⟨c0, c1, c2, c3, c4, c5, c6, c7, c8⟩ := unhide HA
  go_wp2_with fail
  clear c0 c1 c2 c3 c4 c5 c6 c7 c8
  have HB := hide ((unhide HB).drew)
  have HA := hide ((unhide HA).below ((Below.refl _ _).drew))
  refine wp_region_held_drew (S := fun w' => (w'.cell? ⟨W.heap.size, 0, none⟩ = some (.bool n1) ∧ w'.cell? ⟨W.heap.size, 1, none⟩ = some (.int .i64 K1) ∧ w'.cell? ⟨W.heap.size, 2, none⟩ = some (.int .i64 X1) ∧ w'.cell? ⟨W.heap.size, 3, none⟩ = some (.int .u64 S1) ∧ w'.cell? ⟨W.heap.size, 4, none⟩ = some (.bool n2) ∧ w'.cell? ⟨W.heap.size, 5, none⟩ = some (.int .i64 K2) ∧ w'.cell? ⟨W.heap.size, 6, none⟩ = some (.int .i64 X2) ∧ w'.cell? ⟨W.heap.size, 7, none⟩ = some (.int .u64 S2) ∧ w'.cell? ⟨W.heap.size, 8, none⟩ = some (.int .i64 w))) (by kernel_rfl) ?_ (fun hHeld => ?_)
  · (try dsimp only)
    exact unhide HA
  refine lst0 6 (by kernel_rfl) ?_
  refine tkA 0 26 1 ?_
  refine tkA 1 27 3 ?_
  refine tkA 2 28 7 ?_
  refine rdA 3 15 (fun Kk hKk => ?_)
  go_simp
  refine (unhide HG _).mono ?_
  rintro _ w2 ⟨rfl, hbl⟩
  have HB := hide (bthen (unhide HB) hbl)
  have HA := hide ((unhide HA).below hbl)
  clear hbl
  (try go_wp2_with fail)
  refine hKk.out _ _ ?_ (fun hHeld => ?_)
  · (try dsimp only)
    exact unhide HA
  clear hKk Kk
  (try simp only [List.setIfInBounds_toArray, List.set_cons_zero, List.set_cons_succ])
  refine rdA 4 31 (fun Kk hKk => ?_)
  go_simp
  refine (unhide HC _).mono ?_
  rintro _ w3 ⟨rfl, hbl⟩
  have HB := hide (bthen (unhide HB) hbl)
  have HA := hide ((unhide HA).below hbl)
  clear hbl
  (try go_wp2_with fail)
  refine hKk.out _ _ ?_ (fun hHeld => ?_)
  · (try dsimp only)
    exact unhide HA
  clear hKk Kk
  (try simp only [List.setIfInBounds_toArray, List.set_cons_zero, List.set_cons_succ])
  refine tkA 5 2 63 ?_
  refine wpAnyH_done (by kernel_rfl) ?_ _
  go_wp2
  go_ret
  exact ⟨rfl, unhide HB⟩
set_option maxRecDepth 100000 in
set_option maxHeartbeats 2000000 in
theorem nearestQ_i2 {w K1 X1 S1 K2 X2 S2 V : Int} {n1 n2 : Bool} (W : World) (HN : Ct 151 #[.agg #[.bool n1, .int .i64 K1, .int .i64 X1, .int .u64 S1, .bool n2, .int .i64 K2, .int .i64 X2, .int .u64 S2, .int .i64 w]] (.bool false)) (HG : Ct 152 #[.agg #[.bool n1, .int .i64 K1, .int .i64 X1, .int .u64 S1, .bool n2, .int .i64 K2, .int .i64 X2, .int .u64 S2, .int .i64 w]] (.bool (n1 != n2))) (a2 : (K1 == 2) = false) (b0 : (K2 == 0) = true) (HC : Ct 97 #[.int .i64 w, .bool (n1 != n2)] (.int .u64 V)) :
    Calls Tryz.prog 104 #[.agg #[.bool n1, .int .i64 K1, .int .i64 X1, .int .u64 S1, .bool n2, .int .i64 K2, .int .i64 X2, .int .u64 S2, .int .i64 w]] W fun r W' => r = .returned (.int .u64 V) ∧ Below W.heap.size W W' := by
  go_enter Tryz.func104, Tryz.ntmps104
  go_wp2_with fail
  have HB := hide (below1 W (.cells #[.bool n1, .int .i64 K1, .int .i64 X1, .int .u64 S1, .bool n2, .int .i64 K2, .int .i64 X2, .int .u64 S2, .int .i64 w] 98))
  have HA := hide (at9_new W (.bool n1) (.int .i64 K1) (.int .i64 X1) (.int .u64 S1) (.bool n2) (.int .i64 K2) (.int .i64 X2) (.int .u64 S2) (.int .i64 w) 98)
  refine (unhide HN _).mono ?_
  rintro _ w1 ⟨rfl, hbl⟩
  have HB := hide (bthen (unhide HB) hbl)
  have HA := hide ((unhide HA).below hbl)
  clear hbl
  obtain ⟨c0, c1, c2, c3, c4, c5, c6, c7, c8⟩ := unhide HA
  go_wp2_with fail
  clear c0 c1 c2 c3 c4 c5 c6 c7 c8
  have HB := hide ((unhide HB).drew)
  have HA := hide ((unhide HA).below ((Below.refl _ _).drew))
  refine wp_region_held_drew (S := fun w' => (w'.cell? ⟨W.heap.size, 0, none⟩ = some (.bool n1) ∧ w'.cell? ⟨W.heap.size, 1, none⟩ = some (.int .i64 K1) ∧ w'.cell? ⟨W.heap.size, 2, none⟩ = some (.int .i64 X1) ∧ w'.cell? ⟨W.heap.size, 3, none⟩ = some (.int .u64 S1) ∧ w'.cell? ⟨W.heap.size, 4, none⟩ = some (.bool n2) ∧ w'.cell? ⟨W.heap.size, 5, none⟩ = some (.int .i64 K2) ∧ w'.cell? ⟨W.heap.size, 6, none⟩ = some (.int .i64 X2) ∧ w'.cell? ⟨W.heap.size, 7, none⟩ = some (.int .u64 S2) ∧ w'.cell? ⟨W.heap.size, 8, none⟩ = some (.int .i64 w))) (by kernel_rfl) ?_ (fun hHeld => ?_)
  · (try dsimp only)
    exact unhide HA
  refine lst0 6 (by kernel_rfl) ?_
  refine tkA 0 26 1 ?_
  refine tkA 1 27 3 ?_
  refine tkA 2 28 7 ?_
  refine rdA 3 15 (fun Kk hKk => ?_)
  go_simp
  refine (unhide HG _).mono ?_
  rintro _ w2 ⟨rfl, hbl⟩
  have HB := hide (bthen (unhide HB) hbl)
  have HA := hide ((unhide HA).below hbl)
  clear hbl
  (try go_wp2_with fail)
  refine hKk.out _ _ ?_ (fun hHeld => ?_)
  · (try dsimp only)
    exact unhide HA
  clear hKk Kk
  (try simp only [List.setIfInBounds_toArray, List.set_cons_zero, List.set_cons_succ])
  refine rdA 4 31 (fun Kk hKk => ?_)
  go_simp
  refine (unhide HC _).mono ?_
  rintro _ w3 ⟨rfl, hbl⟩
  have HB := hide (bthen (unhide HB) hbl)
  have HA := hide ((unhide HA).below hbl)
  clear hbl
  (try go_wp2_with fail)
  refine hKk.out _ _ ?_ (fun hHeld => ?_)
  · (try dsimp only)
    exact unhide HA
  clear hKk Kk
  (try simp only [List.setIfInBounds_toArray, List.set_cons_zero, List.set_cons_succ])
  refine tkA 5 2 63 ?_
  refine wpAnyH_done (by kernel_rfl) ?_ _
  go_wp2
  go_ret
  exact ⟨rfl, unhide HB⟩
set_option maxRecDepth 100000 in
set_option maxHeartbeats 2000000 in
theorem nearestQ_z1 {w K1 X1 S1 K2 X2 S2 V : Int} {n1 n2 : Bool} (W : World) (HN : Ct 151 #[.agg #[.bool n1, .int .i64 K1, .int .i64 X1, .int .u64 S1, .bool n2, .int .i64 K2, .int .i64 X2, .int .u64 S2, .int .i64 w]] (.bool false)) (HG : Ct 152 #[.agg #[.bool n1, .int .i64 K1, .int .i64 X1, .int .u64 S1, .bool n2, .int .i64 K2, .int .i64 X2, .int .u64 S2, .int .i64 w]] (.bool (n1 != n2))) (a2 : (K1 == 2) = false) (b0 : (K2 == 0) = false) (a0 : (K1 == 0) = true) (HC : Ct 96 #[.int .i64 w, .bool (n1 != n2)] (.int .u64 V)) :
    Calls Tryz.prog 104 #[.agg #[.bool n1, .int .i64 K1, .int .i64 X1, .int .u64 S1, .bool n2, .int .i64 K2, .int .i64 X2, .int .u64 S2, .int .i64 w]] W fun r W' => r = .returned (.int .u64 V) ∧ Below W.heap.size W W' := by
  go_enter Tryz.func104, Tryz.ntmps104
  go_wp2_with fail
  have HB := hide (below1 W (.cells #[.bool n1, .int .i64 K1, .int .i64 X1, .int .u64 S1, .bool n2, .int .i64 K2, .int .i64 X2, .int .u64 S2, .int .i64 w] 98))
  have HA := hide (at9_new W (.bool n1) (.int .i64 K1) (.int .i64 X1) (.int .u64 S1) (.bool n2) (.int .i64 K2) (.int .i64 X2) (.int .u64 S2) (.int .i64 w) 98)
  refine (unhide HN _).mono ?_
  rintro _ w1 ⟨rfl, hbl⟩
  have HB := hide (bthen (unhide HB) hbl)
  have HA := hide ((unhide HA).below hbl)
  clear hbl
  obtain ⟨c0, c1, c2, c3, c4, c5, c6, c7, c8⟩ := unhide HA
  go_wp2_with fail
  clear c0 c1 c2 c3 c4 c5 c6 c7 c8
  have HB := hide ((unhide HB).drew)
  have HA := hide ((unhide HA).below ((Below.refl _ _).drew))
  refine wp_region_held_drew (S := fun w' => (w'.cell? ⟨W.heap.size, 0, none⟩ = some (.bool n1) ∧ w'.cell? ⟨W.heap.size, 1, none⟩ = some (.int .i64 K1) ∧ w'.cell? ⟨W.heap.size, 2, none⟩ = some (.int .i64 X1) ∧ w'.cell? ⟨W.heap.size, 3, none⟩ = some (.int .u64 S1) ∧ w'.cell? ⟨W.heap.size, 4, none⟩ = some (.bool n2) ∧ w'.cell? ⟨W.heap.size, 5, none⟩ = some (.int .i64 K2) ∧ w'.cell? ⟨W.heap.size, 6, none⟩ = some (.int .i64 X2) ∧ w'.cell? ⟨W.heap.size, 7, none⟩ = some (.int .u64 S2) ∧ w'.cell? ⟨W.heap.size, 8, none⟩ = some (.int .i64 w))) (by kernel_rfl) ?_ (fun hHeld => ?_)
  · (try dsimp only)
    exact unhide HA
  refine lst0 6 (by kernel_rfl) ?_
  refine tkA 0 44 1 ?_
  refine tkA 1 45 3 ?_
  refine tkA 2 46 7 ?_
  refine rdA 3 15 (fun Kk hKk => ?_)
  go_simp
  refine (unhide HG _).mono ?_
  rintro _ w2 ⟨rfl, hbl⟩
  have HB := hide (bthen (unhide HB) hbl)
  have HA := hide ((unhide HA).below hbl)
  clear hbl
  (try go_wp2_with fail)
  refine hKk.out _ _ ?_ (fun hHeld => ?_)
  · (try dsimp only)
    exact unhide HA
  clear hKk Kk
  (try simp only [List.setIfInBounds_toArray, List.set_cons_zero, List.set_cons_succ])
  refine rdA 4 31 (fun Kk hKk => ?_)
  go_simp
  refine (unhide HC _).mono ?_
  rintro _ w3 ⟨rfl, hbl⟩
  have HB := hide (bthen (unhide HB) hbl)
  have HA := hide ((unhide HA).below hbl)
  clear hbl
  (try go_wp2_with fail)
  refine hKk.out _ _ ?_ (fun hHeld => ?_)
  · (try dsimp only)
    exact unhide HA
  clear hKk Kk
  (try simp only [List.setIfInBounds_toArray, List.set_cons_zero, List.set_cons_succ])
  refine tkA 5 2 63 ?_
  refine wpAnyH_done (by kernel_rfl) ?_ _
  go_wp2
  go_ret
  exact ⟨rfl, unhide HB⟩
set_option maxRecDepth 100000 in
set_option maxHeartbeats 2000000 in
theorem nearestQ_z2 {w K1 X1 S1 K2 X2 S2 V : Int} {n1 n2 : Bool} (W : World) (HN : Ct 151 #[.agg #[.bool n1, .int .i64 K1, .int .i64 X1, .int .u64 S1, .bool n2, .int .i64 K2, .int .i64 X2, .int .u64 S2, .int .i64 w]] (.bool false)) (HG : Ct 152 #[.agg #[.bool n1, .int .i64 K1, .int .i64 X1, .int .u64 S1, .bool n2, .int .i64 K2, .int .i64 X2, .int .u64 S2, .int .i64 w]] (.bool (n1 != n2))) (a2 : (K1 == 2) = false) (b0 : (K2 == 0) = false) (a0 : (K1 == 0) = false) (b2 : (K2 == 2) = true) (HC : Ct 96 #[.int .i64 w, .bool (n1 != n2)] (.int .u64 V)) :
    Calls Tryz.prog 104 #[.agg #[.bool n1, .int .i64 K1, .int .i64 X1, .int .u64 S1, .bool n2, .int .i64 K2, .int .i64 X2, .int .u64 S2, .int .i64 w]] W fun r W' => r = .returned (.int .u64 V) ∧ Below W.heap.size W W' := by
  go_enter Tryz.func104, Tryz.ntmps104
  go_wp2_with fail
  have HB := hide (below1 W (.cells #[.bool n1, .int .i64 K1, .int .i64 X1, .int .u64 S1, .bool n2, .int .i64 K2, .int .i64 X2, .int .u64 S2, .int .i64 w] 98))
  have HA := hide (at9_new W (.bool n1) (.int .i64 K1) (.int .i64 X1) (.int .u64 S1) (.bool n2) (.int .i64 K2) (.int .i64 X2) (.int .u64 S2) (.int .i64 w) 98)
  refine (unhide HN _).mono ?_
  rintro _ w1 ⟨rfl, hbl⟩
  have HB := hide (bthen (unhide HB) hbl)
  have HA := hide ((unhide HA).below hbl)
  clear hbl
  obtain ⟨c0, c1, c2, c3, c4, c5, c6, c7, c8⟩ := unhide HA
  go_wp2_with fail
  clear c0 c1 c2 c3 c4 c5 c6 c7 c8
  have HB := hide ((unhide HB).drew)
  have HA := hide ((unhide HA).below ((Below.refl _ _).drew))
  refine wp_region_held_drew (S := fun w' => (w'.cell? ⟨W.heap.size, 0, none⟩ = some (.bool n1) ∧ w'.cell? ⟨W.heap.size, 1, none⟩ = some (.int .i64 K1) ∧ w'.cell? ⟨W.heap.size, 2, none⟩ = some (.int .i64 X1) ∧ w'.cell? ⟨W.heap.size, 3, none⟩ = some (.int .u64 S1) ∧ w'.cell? ⟨W.heap.size, 4, none⟩ = some (.bool n2) ∧ w'.cell? ⟨W.heap.size, 5, none⟩ = some (.int .i64 K2) ∧ w'.cell? ⟨W.heap.size, 6, none⟩ = some (.int .i64 X2) ∧ w'.cell? ⟨W.heap.size, 7, none⟩ = some (.int .u64 S2) ∧ w'.cell? ⟨W.heap.size, 8, none⟩ = some (.int .i64 w))) (by kernel_rfl) ?_ (fun hHeld => ?_)
  · (try dsimp only)
    exact unhide HA
  refine lst0 6 (by kernel_rfl) ?_
  refine tkA 0 44 1 ?_
  refine tkA 1 45 3 ?_
  refine tkA 2 46 7 ?_
  refine rdA 3 15 (fun Kk hKk => ?_)
  go_simp
  refine (unhide HG _).mono ?_
  rintro _ w2 ⟨rfl, hbl⟩
  have HB := hide (bthen (unhide HB) hbl)
  have HA := hide ((unhide HA).below hbl)
  clear hbl
  (try go_wp2_with fail)
  refine hKk.out _ _ ?_ (fun hHeld => ?_)
  · (try dsimp only)
    exact unhide HA
  clear hKk Kk
  (try simp only [List.setIfInBounds_toArray, List.set_cons_zero, List.set_cons_succ])
  refine rdA 4 31 (fun Kk hKk => ?_)
  go_simp
  refine (unhide HC _).mono ?_
  rintro _ w3 ⟨rfl, hbl⟩
  have HB := hide (bthen (unhide HB) hbl)
  have HA := hide ((unhide HA).below hbl)
  clear hbl
  (try go_wp2_with fail)
  refine hKk.out _ _ ?_ (fun hHeld => ?_)
  · (try dsimp only)
    exact unhide HA
  clear hKk Kk
  (try simp only [List.setIfInBounds_toArray, List.set_cons_zero, List.set_cons_succ])
  refine tkA 5 2 63 ?_
  refine wpAnyH_done (by kernel_rfl) ?_ _
  go_wp2
  go_ret
  exact ⟨rfl, unhide HB⟩
set_option maxRecDepth 100000 in
set_option maxHeartbeats 2000000 in
theorem nearestQ_fin {w K1 X1 S1 K2 X2 S2 E Y h l h' l' V : Int} {n1 n2 m : Bool} (W : World) (HN : Ct 151 #[.agg #[.bool n1, .int .i64 K1, .int .i64 X1, .int .u64 S1, .bool n2, .int .i64 K2, .int .i64 X2, .int .u64 S2, .int .i64 w]] (.bool false)) (HG : Ct 152 #[.agg #[.bool n1, .int .i64 K1, .int .i64 X1, .int .u64 S1, .bool n2, .int .i64 K2, .int .i64 X2, .int .u64 S2, .int .i64 w]] (.bool (n1 != n2))) (a2 : (K1 == 2) = false) (b0 : (K2 == 0) = false) (a0 : (K1 == 0) = false) (b2 : (K2 == 2) = false) (HR : Ct 153 #[.agg #[.bool n1, .int .i64 K1, .int .i64 X1, .int .u64 S1]] (.tuple #[.agg #[.int .u64 h, .int .u64 l], .int .i64 E])) (HI : Ct 154 #[.agg #[.bool n2, .int .i64 K2, .int .i64 X2, .int .u64 S2], .agg #[.int .u64 h, .int .u64 l]] (.tuple #[.agg #[.int .u64 h', .int .u64 l'], .bool m])) (kx : IntKind.i64.wrap (E - X2) = Y) (HC : Ct 100 #[.int .i64 w, .bool (n1 != n2), .agg #[.int .u64 h', .int .u64 l'], .int .i64 Y, .bool m] (.int .u64 V)) :
    Calls Tryz.prog 104 #[.agg #[.bool n1, .int .i64 K1, .int .i64 X1, .int .u64 S1, .bool n2, .int .i64 K2, .int .i64 X2, .int .u64 S2, .int .i64 w]] W fun r W' => r = .returned (.int .u64 V) ∧ Below W.heap.size W W' := by
  go_enter Tryz.func104, Tryz.ntmps104
  go_wp2_with fail
  have HB := hide (below1 W (.cells #[.bool n1, .int .i64 K1, .int .i64 X1, .int .u64 S1, .bool n2, .int .i64 K2, .int .i64 X2, .int .u64 S2, .int .i64 w] 98))
  have HA := hide (at9_new W (.bool n1) (.int .i64 K1) (.int .i64 X1) (.int .u64 S1) (.bool n2) (.int .i64 K2) (.int .i64 X2) (.int .u64 S2) (.int .i64 w) 98)
  refine (unhide HN _).mono ?_
  rintro _ w1 ⟨rfl, hbl⟩
  have HB := hide (bthen (unhide HB) hbl)
  have HA := hide ((unhide HA).below hbl)
  clear hbl
  obtain ⟨c0, c1, c2, c3, c4, c5, c6, c7, c8⟩ := unhide HA
  go_wp2_with fail
  clear c0 c1 c2 c3 c4 c5 c6 c7 c8
  refine (unhide HR _).mono ?_
  rintro _ w2 ⟨rfl, hbl⟩
  have HB := hide (bthen (unhide HB) hbl)
  have HA := hide ((unhide HA).below hbl)
  clear hbl
  have HB := hide (balloc (unhide HB) (.cells #[.int .u64 h, .int .u64 l] 86))
  have HA := hide ((unhide HA).below (below1 _ (.cells #[.int .u64 h, .int .u64 l] 86)))
  obtain ⟨c0, c1, c2, c3, c4, c5, c6, c7, c8⟩ := unhide HA
  go_wp2_with fail
  clear c0 c1 c2 c3 c4 c5 c6 c7 c8
  refine (unhide HI _).mono ?_
  rintro _ w3 ⟨rfl, hbl⟩
  have HB := hide (bthen (unhide HB) hbl)
  have HA := hide ((unhide HA).below hbl)
  clear hbl
  have HB := hide (balloc (unhide HB) (.cells #[.int .u64 h', .int .u64 l'] 86))
  have HA := hide ((unhide HA).below (below1 _ (.cells #[.int .u64 h', .int .u64 l'] 86)))
  have H2 := hide (at2_new w3 (.int .u64 h') (.int .u64 l') 86)
  go_wp2_with fail
  have HB := hide ((unhide HB).drew)
  have HA := hide ((unhide HA).below ((Below.refl _ _).drew))
  have H2 := hide ((unhide H2).below ((Below.refl _ _).drew))
  refine wp_region_held_drew (S := fun w' => (w'.cell? ⟨W.heap.size, 0, none⟩ = some (.bool n1) ∧ w'.cell? ⟨W.heap.size, 1, none⟩ = some (.int .i64 K1) ∧ w'.cell? ⟨W.heap.size, 2, none⟩ = some (.int .i64 X1) ∧ w'.cell? ⟨W.heap.size, 3, none⟩ = some (.int .u64 S1) ∧ w'.cell? ⟨W.heap.size, 4, none⟩ = some (.bool n2) ∧ w'.cell? ⟨W.heap.size, 5, none⟩ = some (.int .i64 K2) ∧ w'.cell? ⟨W.heap.size, 6, none⟩ = some (.int .i64 X2) ∧ w'.cell? ⟨W.heap.size, 7, none⟩ = some (.int .u64 S2) ∧ w'.cell? ⟨W.heap.size, 8, none⟩ = some (.int .i64 w)) ∧ (w'.cell? ⟨w3.heap.size, 0, none⟩ = some (.int .u64 h') ∧ w'.cell? ⟨w3.heap.size, 1, none⟩ = some (.int .u64 l'))) (by kernel_rfl) ?_ (fun hHeld => ?_)
  · (try dsimp only)
    exact ⟨unhide HA, unhide H2⟩
  refine lst0 14 (by kernel_rfl) ?_
  refine tkA 0 62 1 ?_
  refine tkA 1 63 3 ?_
  refine tkA 2 64 7 ?_
  refine tkA 4 66 23 ?_
  refine tkA 5 67 55 ?_
  refine tkA 6 68 119 ?_
  refine tkA 7 69 247 ?_
  refine tkA 8 70 503 ?_
  refine tkA 9 71 1015 ?_
  refine tkA 10 72 2039 ?_
  refine tkA 11 73 4087 ?_
  refine rdA 3 4095 (fun Kk hKk => ?_)
  go_simp
  refine (unhide HG _).mono ?_
  rintro _ w4 ⟨rfl, hbl⟩
  have HB := hide (bthen (unhide HB) hbl)
  have HA := hide ((unhide HA).below hbl)
  have H2 := hide ((unhide H2).below hbl)
  clear hbl
  (try go_wp2_with fail)
  refine hKk.out _ _ ?_ (fun hHeld => ?_)
  · (try dsimp only)
    exact ⟨unhide HA, unhide H2⟩
  clear hKk Kk
  (try simp only [List.setIfInBounds_toArray, List.set_cons_zero, List.set_cons_succ])
  refine rdA 12 8191 (fun Kk hKk => ?_)
  go_simp
  refine (unhide HC _).mono ?_
  rintro _ w5 ⟨rfl, hbl⟩
  have HB := hide (bthen (unhide HB) hbl)
  have HA := hide ((unhide HA).below hbl)
  have H2 := hide ((unhide H2).below hbl)
  clear hbl
  (try go_wp2_with fail)
  refine hKk.out _ _ ?_ (fun hHeld => ?_)
  · (try dsimp only)
    exact ⟨unhide HA, unhide H2⟩
  clear hKk Kk
  (try simp only [List.setIfInBounds_toArray, List.set_cons_zero, List.set_cons_succ])
  refine tkA 13 2 16383 ?_
  refine wpAnyH_done (by kernel_rfl) ?_ _
  go_wp2
  go_ret
  exact ⟨rfl, unhide HB⟩
set_option maxRecDepth 100000 in
set_option maxHeartbeats 2000000 in
theorem quoDiv_l {w x y K1 X1 S1 K2 X2 S2 V : Int} {n1 n2 : Bool} (W : World) (HO1 : Ct 95 #[.int .i64 w, .int .u64 x] (.agg #[.bool n1, .int .i64 K1, .int .i64 X1, .int .u64 S1])) (HO2 : Ct 95 #[.int .i64 w, .int .u64 y] (.agg #[.bool n2, .int .i64 K2, .int .i64 X2, .int .u64 S2])) (HP : Ct 104 #[.agg #[.bool n1, .int .i64 K1, .int .i64 X1, .int .u64 S1, .bool n2, .int .i64 K2, .int .i64 X2, .int .u64 S2, .int .i64 w]] (.int .u64 V)) :
    Calls Tryz.prog 50 #[.int .i64 w, .int .u64 x, .int .u64 y] W fun r W' => r = .returned (.int .u64 V) ∧ Below W.heap.size W W' := by
  go_enter Tryz.func50, Tryz.ntmps50
  go_wp2_with fail
  refine (unhide HO1 _).mono ?_
  rintro _ w1 ⟨rfl, hb1⟩
  go_wp2_with fail
  refine (unhide HO2 _).mono ?_
  rintro _ w2 ⟨rfl, hb2⟩
  go_wp2_with fail
  refine (unhide HP _).mono ?_
  rintro _ w3 ⟨rfl, hb3⟩
  go_wp2_with fail
  go_ret
  exact ⟨rfl, bthen (balloc (bthen hb1 hb2) (.cells #[.bool n1, .int .i64 K1, .int .i64 X1, .int .u64 S1, .bool n2, .int .i64 K2, .int .i64 X2, .int .u64 S2, .int .i64 w] 98)) hb3⟩
end Go.Proofs.YtpbgpdmffejdgabGreatDoor
namespace Go.Proofs.YtpbgpdmffejdgabGreatDoor
open Go.RowKit
open Go.Proofs.YtpbgpdmffejdgabGreatDoor.W

theorem even_iff (x : Int) : x.tmod 2 = 0 ↔ x % 2 = 0 := by
  have h := Int.tmod_add_mul_tdiv x 2
  constructor
  · intro h0
    omega
  · intro h0
    by_cases hx : 0 ≤ x
    · rw [Int.tmod_eq_emod_of_nonneg hx]
      exact h0
    · have h1 : (-x).tmod 2 = -(x.tmod 2) := Int.neg_tmod x 2
      rw [Int.tmod_eq_emod_of_nonneg (by omega)] at h1
      omega
/-- Behind k rounds: no bit is lost, and one more than 127 bits are there only with an even power. -/
def Ev (v : Nat) (X : Int) (k : Nat) : Prop := Go.bitLen v + k ≤ 127 ∨ (Go.bitLen v + k = 128 ∧ (X - k).tmod 2 = 0)
theorem ev_fit {v k : Nat} {X : Int} (h : Ev v X k) : W2 (v * 2 ^ k) := by
  unfold W2
  by_cases h0 : v = 0
  · rw [h0, Nat.zero_mul]; omega
  · have := bl_lt (x := v * 2 ^ k) (k := 128) (by rw [bl_shl _ _ h0]; unfold Ev at h; omega)
    omega
theorem ev_next {v k : Nat} {X : Int} (h : Ev v X k) (hc : Go.bitLen v + k < 127 ∨ (X - k).tmod 2 ≠ 0) : Ev v X (k + 1) ∧ shlN (v * 2 ^ k) 1 = v * 2 ^ (k + 1) := by
  have h' : Ev v X (k + 1) := by
    unfold Ev at *
    rcases h with h | h
    · by_cases hl : Go.bitLen v + k < 127
      · exact Or.inl (by omega)
      · refine Or.inr ⟨by omega, ?_⟩
        have e1 := even_iff (X - (k : Int))
        have e2 := even_iff (X - ((k + 1 : Nat) : Int))
        omega
    · omega
  refine ⟨h', ?_⟩
  have := ev_fit h'
  unfold W2 at this
  unfold shlN
  rw [show (1 : Int).toNat = 1 from rfl, Nat.mul_assoc, ← Nat.pow_add, Nat.mod_eq_of_lt (by omega)]

set_option maxRecDepth 100000 in
set_option maxHeartbeats 2000000 in
theorem evened_any {K X : Int} {v : Nat} {n : Bool} (W : World) (v0 : v ≠ 0) (v1 : v < 18446744073709551616) (x0 : -4000 ≤ X) (x1 : X ≤ 4000) :
    Calls Tryz.prog 98 #[.agg #[.bool n, .int .i64 K, .int .i64 X, .int .u64 (v : Int)]] W fun r W' => ∃ k : Nat, r = .returned (.tuple #[.agg #[.int .u64 (hi (v * 2 ^ k)), .int .u64 (lo (v * 2 ^ k))], .int .i64 (X - k)]) ∧ (127 ≤ Go.bitLen v + k ∧ Go.bitLen v + k ≤ 128 ∧ (X - k).tmod 2 = 0) ∧ Below W.heap.size W W' := by
  have HO := fun W => of_n (v : Int) W (by omega) (by omega)
  rw [Int.toNat_natCast] at HO
  have HO := hide HO
  have HE : Hid (Ev v X 0) := Or.inl (by have := bitLen_of (k := 64) v1; omega)
  go_enter Tryz.func98, Tryz.ntmps98
  go_wp2_with fail
  have HB := hide (below2 W (.cells #[.bool n, .int .i64 K, .int .i64 X, .int .u64 (v : Int)] 82) (.cells #[.int .u64 0, .int .u64 0] 86)).drew
  have HA := hide ((at4_new2a W (.bool n) (.int .i64 K) (.int .i64 X) (.int .u64 (v : Int)) 82 (.cells #[.int .u64 0, .int .u64 0] 86)).below ((Below.refl _ _).drew))
  have HR : Hid (Room (W.heap.size + 1) 2 ((W.alloc (.cells #[.bool n, .int .i64 K, .int .i64 X, .int .u64 (v : Int)] 82)).alloc (.cells #[.int .u64 0, .int .u64 0] 86)).drew) := by
    have := room2_new (W.alloc (.cells #[.bool n, .int .i64 K, .int .i64 X, .int .u64 (v : Int)] 82)) (.int .u64 0) (.int .u64 0) 86
    rw [show (W.alloc (.cells #[.bool n, .int .i64 K, .int .i64 X, .int .u64 (v : Int)] 82)).heap.size = W.heap.size + 1 by simp] at this
    exact this.drew
  go_step3
  go_wp2_with fail
  go_cut [3] (fun t wx => t = .int .i64 X ∧ At2 (W.heap.size + 1) (.int .u64 (hi v)) (.int .u64 (lo v)) wx ∧ Room (W.heap.size + 1) 2 wx ∧ Below W.heap.size W wx)
  case first =>
    obtain ⟨c0, c1, c2, c3⟩ := unhide HA
    obtain ⟨⟨y0, f0⟩, r0⟩ := (unhide HR) 0 (by omega)
    obtain ⟨⟨y1, f1⟩, r1⟩ := (unhide HR) 1 (by omega)
    go_region_with (first
      | (go_at_call 101; refine (unhide HO _).mono ?_; rintro e w8 ⟨rfl, hbl⟩; have HB8 := hide (bthen (unhide HB) hbl); have HR8 := hide ((unhide HR).below hbl); obtain ⟨e0, e1, e2, e3⟩ := (unhide HA).below hbl; obtain ⟨⟨v0, g0⟩, s0⟩ := (unhide HR8) 0 (by omega); obtain ⟨⟨v1, g1⟩, s1⟩ := (unhide HR8) 1 (by omega); clear hbl))
    all_goals
      go_wp2_with fail
      go_meet
      exact ⟨rfl, at2_set2 (unhide HR8) _ _, (unhide HR8).set2 _ _, bset2 (unhide HB8) (by omega) _ _⟩
  case rest =>
    obtain ⟨rfl, H2, HR, HB⟩ := hcut
    clear HA HO
    go_wp2_with fail
    go_step3
    go_wp2_with fail
    go_loopw [3] (fun x wr => ∃ k : Nat, x = .int .i64 (X - k) ∧ Ev v X k ∧ At2 (W.heap.size + 1) (.int .u64 (hi (v * 2 ^ k))) (.int .u64 (lo (v * 2 ^ k))) wr ∧ Room (W.heap.size + 1) 2 wr ∧ Below W.heap.size W wr) (fun x _ => (intOf x - (X - 128)).toNat)
    case atStart =>
      refine ⟨0, by rw [show X - ((0 : Nat) : Int) = X by omega], unhide HE, ?_, HR, HB⟩
      rw [Nat.pow_zero, Nat.mul_one]
      exact H2
    case round =>
      clear H2 HR HB HE
      obtain ⟨k, rfl, he, h2, hr, hb⟩ := hrel
      have H2 := hide h2
      have HR := hide hr
      have HB := hide hb
      clear h2 hr hb
      have hk : k ≤ 128 := by unfold Ev at he; omega
      have hw := ev_fit he
      have hlen : Go.bitLen (v * 2 ^ k) = Go.bitLen v + k := by rw [bl_shl _ _ v0]; omega
      have HN := fun W => len_n (v * 2 ^ k) W hw
      rw [hlen] at HN
      obtain ⟨L, hL⟩ : ∃ L : Int, ((Go.bitLen v + k : Nat) : Int) = L := ⟨_, rfl⟩
      rw [hL] at HN
      have HN := hide HN
      obtain ⟨u, hu⟩ : ∃ u : Nat, v * 2 ^ k = u := ⟨_, rfl⟩
      have ZN := hide (fun hc => ev_next he hc)
      rw [hu] at HN H2 hw ZN
      have HV := hide hu
      have HE := hide he
      have HW := hide hw
      clear hu hlen he hw
      obtain ⟨d0, d1⟩ := unhide H2
      by_cases hc : L < 127
      · have HX := hide (unhide ZN (Or.inl (by omega)))
        have hk2 : k + 1 ≤ 128 := by have := (unhide HX).1; unfold Ev at this; omega
        have HS := fun W => left_n u 1 W (unhide HW)
        rw [(unhide HX).2] at HS
        have HS := hide HS
        have k1 : IntKind.i64.wrap (X - (k : Int) - 1) = X - ((k + 1 : Nat) : Int) := by rw [i64_id (by omega) (by omega)]; omega
        go_wp2_with fail
        clear d0 d1
        refine (unhide HN _).mono ?_
        rintro _ w2 ⟨rfl, hb⟩
        have HB := hide (bthen (unhide HB) hb)
        have H2 := hide ((unhide H2).below hb)
        have HR := hide ((unhide HR).below hb)
        clear hb
        obtain ⟨d0, d1⟩ := unhide H2
        obtain ⟨⟨y0, g0⟩, s0⟩ := (unhide HR) 0 (by omega)
        obtain ⟨⟨y1, g1⟩, s1⟩ := (unhide HR) 1 (by omega)
        go_wp2_with fail
        clear d0 d1 g0 g1 s0 s1 y0 y1
        refine (unhide HS _).mono ?_
        rintro _ w3 ⟨rfl, hb⟩
        have HB := hide (bthen (unhide HB) hb)
        have H2 := hide ((unhide H2).below hb)
        have HR := hide ((unhide HR).below hb)
        clear hb
        obtain ⟨d0, d1⟩ := unhide H2
        obtain ⟨⟨y0, g0⟩, s0⟩ := (unhide HR) 0 (by omega)
        obtain ⟨⟨y1, g1⟩, s1⟩ := (unhide HR) 1 (by omega)
        have RX := hide (And.intro (unhide HX).1 (And.intro (at2_set2 (unhide HR) (.int .u64 (hi (v * 2 ^ (k + 1)))) (.int .u64 (lo (v * 2 ^ (k + 1))))) (And.intro ((unhide HR).set2 (.int .u64 (hi (v * 2 ^ (k + 1)))) (.int .u64 (lo (v * 2 ^ (k + 1))))) (bset2 (unhide HB) (show W.heap.size ≤ W.heap.size + 1 by omega) (.int .u64 (hi (v * 2 ^ (k + 1)))) (.int .u64 (lo (v * 2 ^ (k + 1))))))))
        go_wp2
        exact ⟨⟨k + 1, rfl, unhide RX⟩, by simp only [intOf]; omega⟩
      · by_cases hp : (X - (k : Int)).tmod 2 = 0
        · have q1 : (IntKind.i64.wrap ((X - (k : Int)).tmod 2) != 0) = false := by rw [hp]; decide
          have HP := hide hp
          go_wp2_with fail
          clear d0 d1
          refine (unhide HN _).mono ?_
          rintro _ w2 ⟨rfl, hb⟩
          have HB := hide (bthen (unhide HB) hb)
          have H2 := hide ((unhide H2).below hb)
          have HR := hide ((unhide HR).below hb)
          clear hb
          obtain ⟨d0, d1⟩ := unhide H2
          obtain ⟨⟨y0, g0⟩, s0⟩ := (unhide HR) 0 (by omega)
          obtain ⟨⟨y1, g1⟩, s1⟩ := (unhide HR) 1 (by omega)
          go_wp2_with fail
          rw [Exit.noGoto_ret]
          exact bodyPost_ret (v := .tuple #[.agg #[.int .u64 (hi u), .int .u64 (lo u)], .int .i64 (X - k)]) (by simp (maxDischargeDepth := 8) [results, Tryz.results98, go_sem, g0, g1]) rfl ⟨k, by rw [unhide HV], ⟨by omega, by have := unhide HE; unfold Ev at this; omega, unhide HP⟩, bset2 (unhide HB) (by omega) _ _⟩
        · have q1 : (X - (k : Int)).tmod 2 = 1 ∨ (X - (k : Int)).tmod 2 = -1 := by
            have h1 := Int.tmod_add_mul_tdiv (X - (k : Int)) 2
            have h2 := Int.tmod_lt_of_pos (X - (k : Int)) (show (0 : Int) < 2 by omega)
            have h3 := Int.neg_tmod (X - (k : Int)) 2
            have h4 := Int.tmod_lt_of_pos (-(X - (k : Int))) (show (0 : Int) < 2 by omega)
            omega
          have q2 : (IntKind.i64.wrap ((X - (k : Int)).tmod 2) != 0) = true := by rw [i64_id (by omega) (by omega)]; exact ne_t hp
          have HX := hide (unhide ZN (Or.inr hp))
          have hk2 : k + 1 ≤ 128 := by have := (unhide HX).1; unfold Ev at this; omega
          have HS := fun W => left_n u 1 W (unhide HW)
          rw [(unhide HX).2] at HS
          have HS := hide HS
          have k1 : IntKind.i64.wrap (X - (k : Int) - 1) = X - ((k + 1 : Nat) : Int) := by rw [i64_id (by omega) (by omega)]; omega
          go_wp2_with fail
          clear d0 d1
          refine (unhide HN _).mono ?_
          rintro _ w2 ⟨rfl, hb⟩
          have HB := hide (bthen (unhide HB) hb)
          have H2 := hide ((unhide H2).below hb)
          have HR := hide ((unhide HR).below hb)
          clear hb
          obtain ⟨d0, d1⟩ := unhide H2
          obtain ⟨⟨y0, g0⟩, s0⟩ := (unhide HR) 0 (by omega)
          obtain ⟨⟨y1, g1⟩, s1⟩ := (unhide HR) 1 (by omega)
          go_wp2_with fail
          clear d0 d1 g0 g1 s0 s1 y0 y1
          refine (unhide HS _).mono ?_
          rintro _ w3 ⟨rfl, hb⟩
          have HB := hide (bthen (unhide HB) hb)
          have H2 := hide ((unhide H2).below hb)
          have HR := hide ((unhide HR).below hb)
          clear hb
          obtain ⟨d0, d1⟩ := unhide H2
          obtain ⟨⟨y0, g0⟩, s0⟩ := (unhide HR) 0 (by omega)
          obtain ⟨⟨y1, g1⟩, s1⟩ := (unhide HR) 1 (by omega)
          have RX := hide (And.intro (unhide HX).1 (And.intro (at2_set2 (unhide HR) (.int .u64 (hi (v * 2 ^ (k + 1)))) (.int .u64 (lo (v * 2 ^ (k + 1))))) (And.intro ((unhide HR).set2 (.int .u64 (hi (v * 2 ^ (k + 1)))) (.int .u64 (lo (v * 2 ^ (k + 1))))) (bset2 (unhide HB) (show W.heap.size ≤ W.heap.size + 1 by omega) (.int .u64 (hi (v * 2 ^ (k + 1)))) (.int .u64 (lo (v * 2 ^ (k + 1))))))))
          go_wp2
          exact ⟨⟨k + 1, rfl, unhide RX⟩, by simp only [intOf]; omega⟩

end Go.Proofs.YtpbgpdmffejdgabGreatDoor
namespace Go.Proofs.YtpbgpdmffejdgabGreatDoor
open Go.RowKit
open Go.Proofs.YtpbgpdmffejdgabGreatDoor.W

set_option maxRecDepth 100000 in
set_option maxHeartbeats 2000000 in
theorem sqrt_z {w x K X S V : Int} {n : Bool} (W : World) (HO : Ct 95 #[.int .i64 w, .int .u64 x] (.agg #[.bool n, .int .i64 K, .int .i64 X, .int .u64 S])) (a0 : (K == 0) = true) (HC : Ct 96 #[.int .i64 w, .bool n] (.int .u64 V)) :
    Calls Tryz.prog 46 #[.int .i64 w, .int .u64 x] W fun r W' => r = .returned (.int .u64 V) ∧ Below W.heap.size W W' := by
  go_enter Tryz.func46, Tryz.ntmps46
  go_wp2_with fail
  refine (unhide HO _).mono ?_
  rintro _ w1 ⟨rfl, hb⟩
  have HB := hide (balloc hb (.cells #[.bool n, .int .i64 K, .int .i64 X, .int .u64 S] 82))
  have HA := hide (at4_new w1 (.bool n) (.int .i64 K) (.int .i64 X) (.int .u64 S) 82)
  clear hb
  obtain ⟨c0, c1, c2, c3⟩ := unhide HA
  go_wp2_with fail
  refine (unhide HC _).mono ?_
  rintro _ w2 ⟨rfl, hb⟩
  have HB := hide (bthen (unhide HB) hb)
  go_wp2_with fail
  go_ret
  exact ⟨rfl, unhide HB⟩
set_option maxRecDepth 100000 in
set_option maxHeartbeats 2000000 in
theorem sqrt_n {w x K X S V : Int} {n : Bool} (W : World) (HO : Ct 95 #[.int .i64 w, .int .u64 x] (.agg #[.bool n, .int .i64 K, .int .i64 X, .int .u64 S])) (a0 : (K == 0) = false) (a3 : (K == 3) = true) (HC : Ct 7 #[.int .i64 w] (.int .u64 V)) :
    Calls Tryz.prog 46 #[.int .i64 w, .int .u64 x] W fun r W' => r = .returned (.int .u64 V) ∧ Below W.heap.size W W' := by
  go_enter Tryz.func46, Tryz.ntmps46
  go_wp2_with fail
  refine (unhide HO _).mono ?_
  rintro _ w1 ⟨rfl, hb⟩
  have HB := hide (balloc hb (.cells #[.bool n, .int .i64 K, .int .i64 X, .int .u64 S] 82))
  have HA := hide (at4_new w1 (.bool n) (.int .i64 K) (.int .i64 X) (.int .u64 S) 82)
  clear hb
  obtain ⟨c0, c1, c2, c3⟩ := unhide HA
  go_wp2_with fail
  refine (unhide HC _).mono ?_
  rintro _ w2 ⟨rfl, hb⟩
  have HB := hide (bthen (unhide HB) hb)
  go_wp2_with fail
  go_ret
  exact ⟨rfl, unhide HB⟩
set_option maxRecDepth 100000 in
set_option maxHeartbeats 2000000 in
theorem sqrt_m {w x K X S V : Int} (W : World) (HO : Ct 95 #[.int .i64 w, .int .u64 x] (.agg #[.bool true, .int .i64 K, .int .i64 X, .int .u64 S])) (a0 : (K == 0) = false) (a3 : (K == 3) = false) (HC : Ct 7 #[.int .i64 w] (.int .u64 V)) :
    Calls Tryz.prog 46 #[.int .i64 w, .int .u64 x] W fun r W' => r = .returned (.int .u64 V) ∧ Below W.heap.size W W' := by
  go_enter Tryz.func46, Tryz.ntmps46
  go_wp2_with fail
  refine (unhide HO _).mono ?_
  rintro _ w1 ⟨rfl, hb⟩
  have HB := hide (balloc hb (.cells #[.bool true, .int .i64 K, .int .i64 X, .int .u64 S] 82))
  have HA := hide (at4_new w1 (.bool true) (.int .i64 K) (.int .i64 X) (.int .u64 S) 82)
  clear hb
  obtain ⟨c0, c1, c2, c3⟩ := unhide HA
  go_wp2_with fail
  refine (unhide HC _).mono ?_
  rintro _ w2 ⟨rfl, hb⟩
  have HB := hide (bthen (unhide HB) hb)
  go_wp2_with fail
  go_ret
  exact ⟨rfl, unhide HB⟩
set_option maxRecDepth 100000 in
set_option maxHeartbeats 2000000 in
theorem sqrt_i {w x K X S V : Int} (W : World) (HO : Ct 95 #[.int .i64 w, .int .u64 x] (.agg #[.bool false, .int .i64 K, .int .i64 X, .int .u64 S])) (a0 : (K == 0) = false) (a3 : (K == 3) = false) (a2 : (K == 2) = true) (HC : Ct 97 #[.int .i64 w, .bool false] (.int .u64 V)) :
    Calls Tryz.prog 46 #[.int .i64 w, .int .u64 x] W fun r W' => r = .returned (.int .u64 V) ∧ Below W.heap.size W W' := by
  go_enter Tryz.func46, Tryz.ntmps46
  go_wp2_with fail
  refine (unhide HO _).mono ?_
  rintro _ w1 ⟨rfl, hb⟩
  have HB := hide (balloc hb (.cells #[.bool false, .int .i64 K, .int .i64 X, .int .u64 S] 82))
  have HA := hide (at4_new w1 (.bool false) (.int .i64 K) (.int .i64 X) (.int .u64 S) 82)
  clear hb
  obtain ⟨c0, c1, c2, c3⟩ := unhide HA
  go_wp2_with fail
  refine (unhide HC _).mono ?_
  rintro _ w2 ⟨rfl, hb⟩
  have HB := hide (bthen (unhide HB) hb)
  go_wp2_with fail
  go_ret
  exact ⟨rfl, unhide HB⟩
set_option maxRecDepth 100000 in
set_option maxHeartbeats 2000000 in
theorem sqrt_f {w x X S V : Int} (W : World) (HO : Ct 95 #[.int .i64 w, .int .u64 x] (.agg #[.bool false, .int .i64 1, .int .i64 X, .int .u64 S])) (G : Nat → Int → Prop) (H : Int → Nat → Bool → Prop) (HE : Hid (∀ W, Calls Tryz.prog 98 #[.agg #[.bool false, .int .i64 1, .int .i64 X, .int .u64 S]] W fun r W' => ∃ (v : Nat) (E Y : Int), r = .returned (.tuple #[.agg #[.int .u64 (hi v), .int .u64 (lo v)], .int .i64 E]) ∧ IntKind.i64.wrap (E.tdiv 2) = Y ∧ G v Y ∧ Below W.heap.size W W')) (HR : Hid (∀ (v : Nat) (E : Int) (W : World), G v E → Calls Tryz.prog 99 #[.agg #[.int .u64 (hi v), .int .u64 (lo v)]] W fun r W' => ∃ (q : Nat) (m : Bool), r = .returned (.tuple #[.int .u64 (q : Int), .bool m]) ∧ H E q m ∧ Below W.heap.size W W')) (HF : Hid (∀ (E : Int) (q : Nat) (m : Bool) (W : World), H E q m → Calls Tryz.prog 101 #[.int .u64 (q : Int)] W fun r W' => r = .returned (.agg #[.int .u64 (hi q), .int .u64 (lo q)]) ∧ Below W.heap.size W W')) (HP : Hid (∀ (E : Int) (q : Nat) (m : Bool) (W : World), H E q m → Calls Tryz.prog 100 #[.int .i64 w, .bool false, .agg #[.int .u64 (hi q), .int .u64 (lo q)], .int .i64 E, .bool m] W fun r W' => r = .returned (.int .u64 V) ∧ Below W.heap.size W W')) :
    Calls Tryz.prog 46 #[.int .i64 w, .int .u64 x] W fun r W' => r = .returned (.int .u64 V) ∧ Below W.heap.size W W' := by
  go_enter Tryz.func46, Tryz.ntmps46
  go_wp2_with fail
  refine (unhide HO _).mono ?_
  rintro _ w1 ⟨rfl, hb⟩
  have HB := hide (balloc hb (.cells #[.bool false, .int .i64 1, .int .i64 X, .int .u64 S] 82))
  have HA := hide (at4_new w1 (.bool false) (.int .i64 1) (.int .i64 X) (.int .u64 S) 82)
  clear hb
  obtain ⟨c0, c1, c2, c3⟩ := unhide HA
  go_wp2_with fail
  clear c0 c1 c2 c3
  refine (unhide HE _).mono ?_
  rintro _ w2 ⟨v, E, Y, rfl, kq, hG, hb⟩
  have HB := hide (balloc (bthen (unhide HB) hb) (.cells #[.int .u64 (hi v), .int .u64 (lo v)] 86))
  have H2 := hide (at2_new w2 (.int .u64 (hi v)) (.int .u64 (lo v)) 86)
  clear hb
  obtain ⟨d0, d1⟩ := unhide H2
  go_wp2_with fail
  refine (unhide HR v Y _ hG).mono ?_
  rintro _ w3 ⟨q, m, rfl, hH, hb⟩
  have HB := hide (bthen (unhide HB) hb)
  clear hb
  go_wp2_with fail
  refine (unhide HF Y q m _ hH).mono ?_
  rintro _ w4 ⟨rfl, hb⟩
  have HB := hide (bthen (unhide HB) hb)
  clear hb
  go_wp2_with fail
  refine (unhide HP Y q m _ hH).mono ?_
  rintro _ w5 ⟨rfl, hb⟩
  have HB := hide (bthen (unhide HB) hb)
  clear hb
  go_wp2_with fail
  go_ret
  exact ⟨rfl, unhide HB⟩

end Go.Proofs.YtpbgpdmffejdgabGreatDoor
