/- Contracts of package round's number: float. -/
import Derived.Test.YtpbgpdmffejdgaaGreatDoorParts
namespace Go.Proofs.YtpbgpdmffejdgaaGreatDoor
open Go.RowKit

/-- A block of nine values. -/
def At9 (b : Nat) (x0 x1 x2 x3 x4 x5 x6 x7 x8 : Value) (w : World) : Prop :=
  w.cell? ⟨b, 0, none⟩ = some x0 ∧ w.cell? ⟨b, 1, none⟩ = some x1 ∧ w.cell? ⟨b, 2, none⟩ = some x2 ∧ w.cell? ⟨b, 3, none⟩ = some x3 ∧ w.cell? ⟨b, 4, none⟩ = some x4 ∧
  w.cell? ⟨b, 5, none⟩ = some x5 ∧ w.cell? ⟨b, 6, none⟩ = some x6 ∧ w.cell? ⟨b, 7, none⟩ = some x7 ∧ w.cell? ⟨b, 8, none⟩ = some x8
theorem At9.below {b : Nat} {x0 x1 x2 x3 x4 x5 x6 x7 x8 : Value} {w w' : World} (h : At9 b x0 x1 x2 x3 x4 x5 x6 x7 x8 w) (hb : Below w.heap.size w w') : At9 b x0 x1 x2 x3 x4 x5 x6 x7 x8 w' :=
  have hz := lt_of_cell h.1
  ⟨keep1 hb hz h.1, keep1 hb hz h.2.1, keep1 hb hz h.2.2.1, keep1 hb hz h.2.2.2.1, keep1 hb hz h.2.2.2.2.1, keep1 hb hz h.2.2.2.2.2.1, keep1 hb hz h.2.2.2.2.2.2.1, keep1 hb hz h.2.2.2.2.2.2.2.1, keep1 hb hz h.2.2.2.2.2.2.2.2⟩
theorem at9_new (w : World) (x0 x1 x2 x3 x4 x5 x6 x7 x8 : Value) (t : TypeId) : At9 w.heap.size x0 x1 x2 x3 x4 x5 x6 x7 x8 (w.alloc (.cells #[x0, x1, x2, x3, x4, x5, x6, x7, x8] t)) := by unfold At9; simp [go_sem]

set_option maxRecDepth 100000 in
set_option maxHeartbeats 2000000 in
theorem float_sz {h l E w f L M S U D V : Int} {n m : Bool} (W : World) (g0 : 0 ≤ f) (g1 : f ≤ 63) (kd : S / 2 ^ f.toNat = D) (d : ¬ 1 < D)
    (z : (S == 0) = true) (HC : Ct 155 #[.int .i64 w, .bool n] (.int .u64 V)) :
    Calls Tryz.prog 268 #[.agg #[.bool n, .int .u64 h, .int .u64 l, .int .i64 E, .bool m, .int .i64 w, .int .i64 f, .int .i64 L, .int .i64 M], .int .u64 S, .int .i64 U] W fun r W' => r = .returned (.int .u64 V) ∧ Below W.heap.size W W' := by
  go_enter Tryz.func268, Tryz.ntmps268
  go_wp2_with fail
  refine (unhide HC _).mono ?_
  rintro _ w1 ⟨rfl, hb⟩
  have HB := hide (bthen (below1 _ _) hb)
  clear hb
  go_wp2_with fail
  go_ret
  exact ⟨rfl, unhide HB⟩
set_option maxRecDepth 100000 in
set_option maxHeartbeats 2000000 in
theorem float_si {h l E w f L M S U D V : Int} {n m : Bool} (W : World) (g0 : 0 ≤ f) (g1 : f ≤ 63) (kd : S / 2 ^ f.toNat = D) (d : ¬ 1 < D)
    (z : (S == 0) = false) (g : decide (M < U) = true) (HC : Ct 157 #[.int .i64 w, .bool n] (.int .u64 V)) :
    Calls Tryz.prog 268 #[.agg #[.bool n, .int .u64 h, .int .u64 l, .int .i64 E, .bool m, .int .i64 w, .int .i64 f, .int .i64 L, .int .i64 M], .int .u64 S, .int .i64 U] W fun r W' => r = .returned (.int .u64 V) ∧ Below W.heap.size W W' := by
  go_enter Tryz.func268, Tryz.ntmps268
  go_wp2_with fail
  refine (unhide HC _).mono ?_
  rintro _ w1 ⟨rfl, hb⟩
  have HB := hide (bthen (below1 _ _) hb)
  clear hb
  go_wp2_with fail
  go_ret
  exact ⟨rfl, unhide HB⟩
set_option maxRecDepth 100000 in
set_option maxHeartbeats 2000000 in
theorem float_sc {h l E w f L M S U D V c : Int} {n m : Bool} (W : World) (g0 : 0 ≤ f) (g1 : f ≤ 63) (kd : S / 2 ^ f.toNat = D) (d : ¬ 1 < D)
    (z : (S == 0) = false) (g : decide (M < U) = false) (HC : Ct 279 #[.int .i64 w, .agg #[.bool n, .int .i64 1, .int .i64 U, .int .u64 S]] (.tuple #[.int .u64 V, .int .i64 c])) :
    Calls Tryz.prog 268 #[.agg #[.bool n, .int .u64 h, .int .u64 l, .int .i64 E, .bool m, .int .i64 w, .int .i64 f, .int .i64 L, .int .i64 M], .int .u64 S, .int .i64 U] W fun r W' => r = .returned (.int .u64 V) ∧ Below W.heap.size W W' := by
  go_enter Tryz.func268, Tryz.ntmps268
  go_wp2_with fail
  refine (unhide HC _).mono ?_
  rintro _ w1 ⟨rfl, hb⟩
  have HB := hide (bthen (below1 _ _) hb)
  clear hb
  go_wp2_with fail
  go_ret
  exact ⟨rfl, unhide HB⟩
set_option maxRecDepth 100000 in
set_option maxHeartbeats 2000000 in
theorem float_bz {h l E w f L M S U D V S2 : Int} {n m : Bool} (W : World) (g0 : 0 ≤ f) (g1 : f ≤ 63) (kd : S / 2 ^ f.toNat = D) (d : 1 < D) (k2 : S / 2 = S2) (ku : IntKind.i64.wrap (U + 1) = U + 1)
    (z : (S2 == 0) = true) (HC : Ct 155 #[.int .i64 w, .bool n] (.int .u64 V)) :
    Calls Tryz.prog 268 #[.agg #[.bool n, .int .u64 h, .int .u64 l, .int .i64 E, .bool m, .int .i64 w, .int .i64 f, .int .i64 L, .int .i64 M], .int .u64 S, .int .i64 U] W fun r W' => r = .returned (.int .u64 V) ∧ Below W.heap.size W W' := by
  go_enter Tryz.func268, Tryz.ntmps268
  go_wp2_with fail
  refine (unhide HC _).mono ?_
  rintro _ w1 ⟨rfl, hb⟩
  have HB := hide (bthen (below1 _ _) hb)
  clear hb
  go_wp2_with fail
  go_ret
  exact ⟨rfl, unhide HB⟩
set_option maxRecDepth 100000 in
set_option maxHeartbeats 2000000 in
theorem float_bi {h l E w f L M S U D V S2 : Int} {n m : Bool} (W : World) (g0 : 0 ≤ f) (g1 : f ≤ 63) (kd : S / 2 ^ f.toNat = D) (d : 1 < D) (k2 : S / 2 = S2) (ku : IntKind.i64.wrap (U + 1) = U + 1)
    (z : (S2 == 0) = false) (g : decide (M < (U + 1)) = true) (HC : Ct 157 #[.int .i64 w, .bool n] (.int .u64 V)) :
    Calls Tryz.prog 268 #[.agg #[.bool n, .int .u64 h, .int .u64 l, .int .i64 E, .bool m, .int .i64 w, .int .i64 f, .int .i64 L, .int .i64 M], .int .u64 S, .int .i64 U] W fun r W' => r = .returned (.int .u64 V) ∧ Below W.heap.size W W' := by
  go_enter Tryz.func268, Tryz.ntmps268
  go_wp2_with fail
  refine (unhide HC _).mono ?_
  rintro _ w1 ⟨rfl, hb⟩
  have HB := hide (bthen (below1 _ _) hb)
  clear hb
  go_wp2_with fail
  go_ret
  exact ⟨rfl, unhide HB⟩
set_option maxRecDepth 100000 in
set_option maxHeartbeats 2000000 in
theorem float_bc {h l E w f L M S U D V S2 c : Int} {n m : Bool} (W : World) (g0 : 0 ≤ f) (g1 : f ≤ 63) (kd : S / 2 ^ f.toNat = D) (d : 1 < D) (k2 : S / 2 = S2) (ku : IntKind.i64.wrap (U + 1) = U + 1)
    (z : (S2 == 0) = false) (g : decide (M < (U + 1)) = false) (HC : Ct 279 #[.int .i64 w, .agg #[.bool n, .int .i64 1, .int .i64 (U + 1), .int .u64 S2]] (.tuple #[.int .u64 V, .int .i64 c])) :
    Calls Tryz.prog 268 #[.agg #[.bool n, .int .u64 h, .int .u64 l, .int .i64 E, .bool m, .int .i64 w, .int .i64 f, .int .i64 L, .int .i64 M], .int .u64 S, .int .i64 U] W fun r W' => r = .returned (.int .u64 V) ∧ Below W.heap.size W W' := by
  go_enter Tryz.func268, Tryz.ntmps268
  go_wp2_with fail
  refine (unhide HC _).mono ?_
  rintro _ w1 ⟨rfl, hb⟩
  have HB := hide (bthen (below1 _ _) hb)
  clear hb
  go_wp2_with fail
  go_ret
  exact ⟨rfl, unhide HB⟩

end Go.Proofs.YtpbgpdmffejdgaaGreatDoor
