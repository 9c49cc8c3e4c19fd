/- Float, Nearest, Pack, PackA, PackB, Whole, KeepsA, Narrow, SumB, SumC, SumD, ProdB, ProdC, NearQw, QuoB, RadB, OrdA, CsM. -/
import Derived.Test.YtpbgpdmffejdgaaGreatDoorS01
import Derived.Test.YtpbgpdmffejdgaaGreatDoorS06
import Derived.Test.YtpbgpdmffejdgaaGreatDoorS17
import Derived.Test.YtpbgpdmffejdgaaGreatDoorS21
import Derived.Test.YtpbgpdmffejdgaaGreatDoorS24
import Derived.Test.YtpbgpdmffejdgaaGreatDoorS27
import Derived.Test.YtpbgpdmffejdgaaGreatDoorS28
import Derived.Test.YtpbgpdmffejdgaaGreatDoorS29
import Derived.Test.YtpbgpdmffejdgaaGreatDoorS30
import Derived.Test.YtpbgpdmffejdgaaGreatDoorS33
import Derived.Test.YtpbgpdmffejdgaaGreatDoorS34
namespace Go.Proofs.YtpbgpdmffejdgaaGreatDoor
open Go.RowKit

/-- A block of nine values. -/
def At9 (b : Nat) (x0 x1 x2 x3 x4 x5 x6 x7 x8 : Value) (w : World) : Prop :=
  w.cell? ⟨b, 0, none⟩ = some x0 ∧ w.cell? ⟨b, 1, none⟩ = some x1 ∧ w.cell? ⟨b, 2, none⟩ = some x2 ∧ w.cell? ⟨b, 3, none⟩ = some x3 ∧ w.cell? ⟨b, 4, none⟩ = some x4 ∧
  w.cell? ⟨b, 5, none⟩ = some x5 ∧ w.cell? ⟨b, 6, none⟩ = some x6 ∧ w.cell? ⟨b, 7, none⟩ = some x7 ∧ w.cell? ⟨b, 8, none⟩ = some x8
theorem At9.below {b : Nat} {x0 x1 x2 x3 x4 x5 x6 x7 x8 : Value} {w w' : World} (h : At9 b x0 x1 x2 x3 x4 x5 x6 x7 x8 w) (hb : Below w.heap.size w w') : At9 b x0 x1 x2 x3 x4 x5 x6 x7 x8 w' :=
  have hz := lt_of_cell h.1
  ⟨keep1 hb hz h.1, keep1 hb hz h.2.1, keep1 hb hz h.2.2.1, keep1 hb hz h.2.2.2.1, keep1 hb hz h.2.2.2.2.1, keep1 hb hz h.2.2.2.2.2.1, keep1 hb hz h.2.2.2.2.2.2.1, keep1 hb hz h.2.2.2.2.2.2.2.1, keep1 hb hz h.2.2.2.2.2.2.2.2⟩
theorem at9_new (w : World) (x0 x1 x2 x3 x4 x5 x6 x7 x8 : Value) (t : TypeId) : At9 w.heap.size x0 x1 x2 x3 x4 x5 x6 x7 x8 (w.alloc (.cells #[x0, x1, x2, x3, x4, x5, x6, x7, x8] t)) := by unfold At9; simp [go_sem]

set_option maxRecDepth 100000 in
set_option maxHeartbeats 2000000 in
theorem float_sz {h l E w f L M S U D V : Int} {n m : Bool} (W : World) (g0 : 0 ≤ f) (g1 : f ≤ 63) (kd : S / 2 ^ f.toNat = D) (d : ¬ 1 < D)
    (z : (S == 0) = true) (HC : Ct 155 #[.int .i64 w, .bool n] (.int .u64 V)) :
    Calls Tryz.prog 268 #[.agg #[.bool n, .int .u64 h, .int .u64 l, .int .i64 E, .bool m, .int .i64 w, .int .i64 f, .int .i64 L, .int .i64 M], .int .u64 S, .int .i64 U] W fun r W' => r = .returned (.int .u64 V) ∧ Below W.heap.size W W' := by
  go_enter Tryz.func268, Tryz.ntmps268
  go_wp2_with fail
  refine (unhide HC _).mono ?_
  rintro _ w1 ⟨rfl, hb⟩
  have HB := hide (bthen (below1 _ _) hb)
  clear hb
  go_wp2_with fail
  go_ret
  exact ⟨rfl, unhide HB⟩
set_option maxRecDepth 100000 in
set_option maxHeartbeats 2000000 in
theorem float_si {h l E w f L M S U D V : Int} {n m : Bool} (W : World) (g0 : 0 ≤ f) (g1 : f ≤ 63) (kd : S / 2 ^ f.toNat = D) (d : ¬ 1 < D)
    (z : (S == 0) = false) (g : decide (M < U) = true) (HC : Ct 157 #[.int .i64 w, .bool n] (.int .u64 V)) :
    Calls Tryz.prog 268 #[.agg #[.bool n, .int .u64 h, .int .u64 l, .int .i64 E, .bool m, .int .i64 w, .int .i64 f, .int .i64 L, .int .i64 M], .int .u64 S, .int .i64 U] W fun r W' => r = .returned (.int .u64 V) ∧ Below W.heap.size W W' := by
  go_enter Tryz.func268, Tryz.ntmps268
  go_wp2_with fail
  refine (unhide HC _).mono ?_
  rintro _ w1 ⟨rfl, hb⟩
  have HB := hide (bthen (below1 _ _) hb)
  clear hb
  go_wp2_with fail
  go_ret
  exact ⟨rfl, unhide HB⟩
set_option maxRecDepth 100000 in
set_option maxHeartbeats 2000000 in
theorem float_sc {h l E w f L M S U D V c : Int} {n m : Bool} (W : World) (g0 : 0 ≤ f) (g1 : f ≤ 63) (kd : S / 2 ^ f.toNat = D) (d : ¬ 1 < D)
    (z : (S == 0) = false) (g : decide (M < U) = false) (HC : Ct 279 #[.int .i64 w, .agg #[.bool n, .int .i64 1, .int .i64 U, .int .u64 S]] (.tuple #[.int .u64 V, .int .i64 c])) :
    Calls Tryz.prog 268 #[.agg #[.bool n, .int .u64 h, .int .u64 l, .int .i64 E, .bool m, .int .i64 w, .int .i64 f, .int .i64 L, .int .i64 M], .int .u64 S, .int .i64 U] W fun r W' => r = .returned (.int .u64 V) ∧ Below W.heap.size W W' := by
  go_enter Tryz.func268, Tryz.ntmps268
  go_wp2_with fail
  refine (unhide HC _).mono ?_
  rintro _ w1 ⟨rfl, hb⟩
  have HB := hide (bthen (below1 _ _) hb)
  clear hb
  go_wp2_with fail
  go_ret
  exact ⟨rfl, unhide HB⟩
set_option maxRecDepth 100000 in
set_option maxHeartbeats 2000000 in
theorem float_bi {h l E w f L M S U D V S2 : Int} {n m : Bool} (W : World) (g0 : 0 ≤ f) (g1 : f ≤ 63) (kd : S / 2 ^ f.toNat = D) (d : 1 < D) (k2 : S / 2 = S2) (ku : IntKind.i64.wrap (U + 1) = U + 1)
    (z : (S2 == 0) = false) (g : decide (M < (U + 1)) = true) (HC : Ct 157 #[.int .i64 w, .bool n] (.int .u64 V)) :
    Calls Tryz.prog 268 #[.agg #[.bool n, .int .u64 h, .int .u64 l, .int .i64 E, .bool m, .int .i64 w, .int .i64 f, .int .i64 L, .int .i64 M], .int .u64 S, .int .i64 U] W fun r W' => r = .returned (.int .u64 V) ∧ Below W.heap.size W W' := by
  go_enter Tryz.func268, Tryz.ntmps268
  go_wp2_with fail
  refine (unhide HC _).mono ?_
  rintro _ w1 ⟨rfl, hb⟩
  have HB := hide (bthen (below1 _ _) hb)
  clear hb
  go_wp2_with fail
  go_ret
  exact ⟨rfl, unhide HB⟩
set_option maxRecDepth 100000 in
set_option maxHeartbeats 2000000 in
theorem float_bc {h l E w f L M S U D V S2 c : Int} {n m : Bool} (W : World) (g0 : 0 ≤ f) (g1 : f ≤ 63) (kd : S / 2 ^ f.toNat = D) (d : 1 < D) (k2 : S / 2 = S2) (ku : IntKind.i64.wrap (U + 1) = U + 1)
    (z : (S2 == 0) = false) (g : decide (M < (U + 1)) = false) (HC : Ct 279 #[.int .i64 w, .agg #[.bool n, .int .i64 1, .int .i64 (U + 1), .int .u64 S2]] (.tuple #[.int .u64 V, .int .i64 c])) :
    Calls Tryz.prog 268 #[.agg #[.bool n, .int .u64 h, .int .u64 l, .int .i64 E, .bool m, .int .i64 w, .int .i64 f, .int .i64 L, .int .i64 M], .int .u64 S, .int .i64 U] W fun r W' => r = .returned (.int .u64 V) ∧ Below W.heap.size W W' := by
  go_enter Tryz.func268, Tryz.ntmps268
  go_wp2_with fail
  refine (unhide HC _).mono ?_
  rintro _ w1 ⟨rfl, hb⟩
  have HB := hide (bthen (below1 _ _) hb)
  clear hb
  go_wp2_with fail
  go_ret
  exact ⟨rfl, unhide HB⟩

end Go.Proofs.YtpbgpdmffejdgaaGreatDoor
namespace Go.Proofs.YtpbgpdmffejdgaaGreatDoor
open Go.RowKit

set_option maxRecDepth 100000 in
set_option maxHeartbeats 4000000 in
theorem nearest_z {h l E w f L M V : Int} {n m : Bool} (W : World) (HN : Ct 265 #[.agg #[.bool n, .int .u64 h, .int .u64 l, .int .i64 E, .bool m]] (.bool true)) (HC : Ct 155 #[.int .i64 w, .bool n] (.int .u64 V)) :
    Calls Tryz.prog 238 #[.agg #[.bool n, .int .u64 h, .int .u64 l, .int .i64 E, .bool m, .int .i64 w, .int .i64 f, .int .i64 L, .int .i64 M]] W fun r W' => r = .returned (.int .u64 V) ∧ Below W.heap.size W W' := by
  go_enter Tryz.func238, Tryz.ntmps238
  go_wp2_with fail
  refine (unhide HN _).mono ?_
  rintro _ w1 ⟨rfl, hb⟩
  have HA := hide ((at9_new W _ _ _ _ _ _ _ _ _ 202).below hb)
  have HB := hide (bthen (below1 _ _) hb)
  clear hb
  obtain ⟨a0, a1, a2, a3, a4, a5, a6, a7, a8⟩ := unhide HA
  go_wp2_with fail
  refine (unhide HC _).mono ?_
  rintro _ w2 ⟨rfl, hb⟩
  have HB := hide (bthen (unhide HB) hb)
  clear hb
  go_wp2_with fail
  go_ret
  exact ⟨rfl, unhide HB⟩
set_option maxRecDepth 100000 in
set_option maxHeartbeats 4000000 in
theorem nearest_dn {h l E w f L M V T Nn s hb0 : Int} {n m lost : Bool} (W : World) (HN : Ct 265 #[.agg #[.bool n, .int .u64 h, .int .u64 l, .int .i64 E, .bool m]] (.bool false)) (HT : Ct 266 #[.agg #[.bool n, .int .u64 h, .int .u64 l, .int .i64 E, .bool m]] (.int .i64 T)) (kt : IntKind.i64.wrap (T - f) = T - f) (xm : ¬ T - f < L)
    (kN : Nn / 2 = s) (ka : bits .and .u64 Nn 1 = hb0) (kh : (hb0 == 1) = false)
    (HH : Ct 267 #[.agg #[.bool n, .int .u64 h, .int .u64 l, .int .i64 E, .bool m], .int .i64 (T - f)] (.tuple #[.int .u64 Nn, .bool lost])) (HF : Ct 268 #[.agg #[.bool n, .int .u64 h, .int .u64 l, .int .i64 E, .bool m, .int .i64 w, .int .i64 f, .int .i64 L, .int .i64 M], .int .u64 s, .int .i64 (T - f)] (.int .u64 V)) :
    Calls Tryz.prog 238 #[.agg #[.bool n, .int .u64 h, .int .u64 l, .int .i64 E, .bool m, .int .i64 w, .int .i64 f, .int .i64 L, .int .i64 M]] W fun r W' => r = .returned (.int .u64 V) ∧ Below W.heap.size W W' := by
  go_enter Tryz.func238, Tryz.ntmps238
  go_wp2_with fail
  refine (unhide HN _).mono ?_
  rintro _ w1 ⟨rfl, hb⟩
  have HA := hide ((at9_new W _ _ _ _ _ _ _ _ _ 202).below hb)
  have HB := hide (bthen (below1 _ _) hb)
  clear hb
  go_wp2_with fail
  have HB := hide (unhide HB).drew
  have HA := hide ((unhide HA).below ((Below.refl _ _).drew))
  refine wp_region_held_drew (S := fun w' => w'.cell? ⟨W.heap.size, 0, none⟩ = some (.bool n) ∧ w'.cell? ⟨W.heap.size, 1, none⟩ = some (.int .u64 h) ∧ w'.cell? ⟨W.heap.size, 2, none⟩ = some (.int .u64 l) ∧ w'.cell? ⟨W.heap.size, 3, none⟩ = some (.int .i64 E) ∧ w'.cell? ⟨W.heap.size, 4, none⟩ = some (.bool m) ∧ w'.cell? ⟨W.heap.size, 5, none⟩ = some (.int .i64 w) ∧ w'.cell? ⟨W.heap.size, 6, none⟩ = some (.int .i64 f) ∧ w'.cell? ⟨W.heap.size, 7, none⟩ = some (.int .i64 L) ∧ w'.cell? ⟨W.heap.size, 8, none⟩ = some (.int .i64 M)) (by kernel_rfl) ?_ (fun hHeld => ?_)
  · (try dsimp only)
    exact unhide HA
  refine lst0 12 (by kernel_rfl) ?_
  refine tkA 0 18 1 ?_
  refine tkA 1 19 3 ?_
  refine tkA 3 21 11 ?_
  refine tkA 4 22 27 ?_
  refine tkA 5 23 59 ?_
  refine tkA 7 25 187 ?_
  refine tkA 8 26 443 ?_
  refine tkA 9 27 955 ?_
  refine rdA 2 959 (fun Kk hKk => ?_)
  go_simp
  refine (unhide HT _).mono ?_
  rintro _ w2 ⟨rfl, hbl⟩
  have HB := hide (bthen (unhide HB) hbl)
  have HA := hide ((unhide HA).below hbl)
  clear hbl
  (try go_wp2_with fail)
  refine hKk.out _ _ ?_ (fun hHeld => ?_)
  · (try dsimp only)
    exact unhide HA
  clear hKk Kk
  (try simp only [List.setIfInBounds_toArray, List.set_cons_zero, List.set_cons_succ])
  refine tkA 6 24 1023 ?_
  refine tkA 10 28 2047 ?_
  refine tkA 11 3 4095 ?_
  refine wpAnyH_done (by kernel_rfl) ?_ _
  clear hHeld
  obtain ⟨a0, a1, a2, a3, a4, a5, a6, a7, a8⟩ := unhide HA
  go_wp2_with fail
  clear a0 a1 a2 a3 a4 a5 a6 a7 a8
  refine (unhide HH _).mono ?_
  rintro _ w3 ⟨rfl, hbl⟩
  have HB := hide (bthen (unhide HB) hbl)
  have HA := hide ((unhide HA).below hbl)
  clear hbl
  obtain ⟨a0, a1, a2, a3, a4, a5, a6, a7, a8⟩ := unhide HA
  go_wp2_with fail
  refine (unhide HF _).mono ?_
  rintro _ w4 ⟨rfl, hbl⟩
  have HB := hide (bthen (unhide HB) hbl)
  clear hbl
  go_wp2_with fail
  go_ret
  exact ⟨rfl, unhide HB⟩

set_option maxRecDepth 100000 in
set_option maxHeartbeats 4000000 in
theorem nearest_du {h l E w f L M V T Nn s hb0 : Int} {n m : Bool} (W : World) (HN : Ct 265 #[.agg #[.bool n, .int .u64 h, .int .u64 l, .int .i64 E, .bool m]] (.bool false)) (HT : Ct 266 #[.agg #[.bool n, .int .u64 h, .int .u64 l, .int .i64 E, .bool m]] (.int .i64 T)) (kt : IntKind.i64.wrap (T - f) = T - f) (xm : ¬ T - f < L)
    (kN : Nn / 2 = s) (ka : bits .and .u64 Nn 1 = hb0) (kh : (hb0 == 1) = true) (kw : IntKind.u64.wrap (s + 1) = s + 1)
    (HH : Ct 267 #[.agg #[.bool n, .int .u64 h, .int .u64 l, .int .i64 E, .bool m], .int .i64 (T - f)] (.tuple #[.int .u64 Nn, .bool true])) (HF : Ct 268 #[.agg #[.bool n, .int .u64 h, .int .u64 l, .int .i64 E, .bool m, .int .i64 w, .int .i64 f, .int .i64 L, .int .i64 M], .int .u64 (s + 1), .int .i64 (T - f)] (.int .u64 V)) :
    Calls Tryz.prog 238 #[.agg #[.bool n, .int .u64 h, .int .u64 l, .int .i64 E, .bool m, .int .i64 w, .int .i64 f, .int .i64 L, .int .i64 M]] W fun r W' => r = .returned (.int .u64 V) ∧ Below W.heap.size W W' := by
  go_enter Tryz.func238, Tryz.ntmps238
  go_wp2_with fail
  refine (unhide HN _).mono ?_
  rintro _ w1 ⟨rfl, hb⟩
  have HA := hide ((at9_new W _ _ _ _ _ _ _ _ _ 202).below hb)
  have HB := hide (bthen (below1 _ _) hb)
  clear hb
  go_wp2_with fail
  have HB := hide (unhide HB).drew
  have HA := hide ((unhide HA).below ((Below.refl _ _).drew))
  refine wp_region_held_drew (S := fun w' => w'.cell? ⟨W.heap.size, 0, none⟩ = some (.bool n) ∧ w'.cell? ⟨W.heap.size, 1, none⟩ = some (.int .u64 h) ∧ w'.cell? ⟨W.heap.size, 2, none⟩ = some (.int .u64 l) ∧ w'.cell? ⟨W.heap.size, 3, none⟩ = some (.int .i64 E) ∧ w'.cell? ⟨W.heap.size, 4, none⟩ = some (.bool m) ∧ w'.cell? ⟨W.heap.size, 5, none⟩ = some (.int .i64 w) ∧ w'.cell? ⟨W.heap.size, 6, none⟩ = some (.int .i64 f) ∧ w'.cell? ⟨W.heap.size, 7, none⟩ = some (.int .i64 L) ∧ w'.cell? ⟨W.heap.size, 8, none⟩ = some (.int .i64 M)) (by kernel_rfl) ?_ (fun hHeld => ?_)
  · (try dsimp only)
    exact unhide HA
  refine lst0 12 (by kernel_rfl) ?_
  refine tkA 0 18 1 ?_
  refine tkA 1 19 3 ?_
  refine tkA 3 21 11 ?_
  refine tkA 4 22 27 ?_
  refine tkA 5 23 59 ?_
  refine tkA 7 25 187 ?_
  refine tkA 8 26 443 ?_
  refine tkA 9 27 955 ?_
  refine rdA 2 959 (fun Kk hKk => ?_)
  go_simp
  refine (unhide HT _).mono ?_
  rintro _ w2 ⟨rfl, hbl⟩
  have HB := hide (bthen (unhide HB) hbl)
  have HA := hide ((unhide HA).below hbl)
  clear hbl
  (try go_wp2_with fail)
  refine hKk.out _ _ ?_ (fun hHeld => ?_)
  · (try dsimp only)
    exact unhide HA
  clear hKk Kk
  (try simp only [List.setIfInBounds_toArray, List.set_cons_zero, List.set_cons_succ])
  refine tkA 6 24 1023 ?_
  refine tkA 10 28 2047 ?_
  refine tkA 11 3 4095 ?_
  refine wpAnyH_done (by kernel_rfl) ?_ _
  clear hHeld
  obtain ⟨a0, a1, a2, a3, a4, a5, a6, a7, a8⟩ := unhide HA
  go_wp2_with fail
  clear a0 a1 a2 a3 a4 a5 a6 a7 a8
  refine (unhide HH _).mono ?_
  rintro _ w3 ⟨rfl, hbl⟩
  have HB := hide (bthen (unhide HB) hbl)
  have HA := hide ((unhide HA).below hbl)
  clear hbl
  obtain ⟨a0, a1, a2, a3, a4, a5, a6, a7, a8⟩ := unhide HA
  go_wp2_with fail
  refine (unhide HF _).mono ?_
  rintro _ w4 ⟨rfl, hbl⟩
  have HB := hide (bthen (unhide HB) hbl)
  clear hbl
  go_wp2_with fail
  go_ret
  exact ⟨rfl, unhide HB⟩

set_option maxRecDepth 100000 in
set_option maxHeartbeats 4000000 in
theorem nearest_do {h l E w f L M V T Nn s hb0 ob : Int} {n m : Bool} (W : World) (HN : Ct 265 #[.agg #[.bool n, .int .u64 h, .int .u64 l, .int .i64 E, .bool m]] (.bool false)) (HT : Ct 266 #[.agg #[.bool n, .int .u64 h, .int .u64 l, .int .i64 E, .bool m]] (.int .i64 T)) (kt : IntKind.i64.wrap (T - f) = T - f) (xm : ¬ T - f < L)
    (kN : Nn / 2 = s) (ka : bits .and .u64 Nn 1 = hb0) (kh : (hb0 == 1) = true) (ks : bits .and .u64 s 1 = ob) (ko : (ob == 1) = true) (kw : IntKind.u64.wrap (s + 1) = s + 1)
    (HH : Ct 267 #[.agg #[.bool n, .int .u64 h, .int .u64 l, .int .i64 E, .bool m], .int .i64 (T - f)] (.tuple #[.int .u64 Nn, .bool false])) (HF : Ct 268 #[.agg #[.bool n, .int .u64 h, .int .u64 l, .int .i64 E, .bool m, .int .i64 w, .int .i64 f, .int .i64 L, .int .i64 M], .int .u64 (s + 1), .int .i64 (T - f)] (.int .u64 V)) :
    Calls Tryz.prog 238 #[.agg #[.bool n, .int .u64 h, .int .u64 l, .int .i64 E, .bool m, .int .i64 w, .int .i64 f, .int .i64 L, .int .i64 M]] W fun r W' => r = .returned (.int .u64 V) ∧ Below W.heap.size W W' := by
  go_enter Tryz.func238, Tryz.ntmps238
  go_wp2_with fail
  refine (unhide HN _).mono ?_
  rintro _ w1 ⟨rfl, hb⟩
  have HA := hide ((at9_new W _ _ _ _ _ _ _ _ _ 202).below hb)
  have HB := hide (bthen (below1 _ _) hb)
  clear hb
  go_wp2_with fail
  have HB := hide (unhide HB).drew
  have HA := hide ((unhide HA).below ((Below.refl _ _).drew))
  refine wp_region_held_drew (S := fun w' => w'.cell? ⟨W.heap.size, 0, none⟩ = some (.bool n) ∧ w'.cell? ⟨W.heap.size, 1, none⟩ = some (.int .u64 h) ∧ w'.cell? ⟨W.heap.size, 2, none⟩ = some (.int .u64 l) ∧ w'.cell? ⟨W.heap.size, 3, none⟩ = some (.int .i64 E) ∧ w'.cell? ⟨W.heap.size, 4, none⟩ = some (.bool m) ∧ w'.cell? ⟨W.heap.size, 5, none⟩ = some (.int .i64 w) ∧ w'.cell? ⟨W.heap.size, 6, none⟩ = some (.int .i64 f) ∧ w'.cell? ⟨W.heap.size, 7, none⟩ = some (.int .i64 L) ∧ w'.cell? ⟨W.heap.size, 8, none⟩ = some (.int .i64 M)) (by kernel_rfl) ?_ (fun hHeld => ?_)
  · (try dsimp only)
    exact unhide HA
  refine lst0 12 (by kernel_rfl) ?_
  refine tkA 0 18 1 ?_
  refine tkA 1 19 3 ?_
  refine tkA 3 21 11 ?_
  refine tkA 4 22 27 ?_
  refine tkA 5 23 59 ?_
  refine tkA 7 25 187 ?_
  refine tkA 8 26 443 ?_
  refine tkA 9 27 955 ?_
  refine rdA 2 959 (fun Kk hKk => ?_)
  go_simp
  refine (unhide HT _).mono ?_
  rintro _ w2 ⟨rfl, hbl⟩
  have HB := hide (bthen (unhide HB) hbl)
  have HA := hide ((unhide HA).below hbl)
  clear hbl
  (try go_wp2_with fail)
  refine hKk.out _ _ ?_ (fun hHeld => ?_)
  · (try dsimp only)
    exact unhide HA
  clear hKk Kk
  (try simp only [List.setIfInBounds_toArray, List.set_cons_zero, List.set_cons_succ])
  refine tkA 6 24 1023 ?_
  refine tkA 10 28 2047 ?_
  refine tkA 11 3 4095 ?_
  refine wpAnyH_done (by kernel_rfl) ?_ _
  clear hHeld
  obtain ⟨a0, a1, a2, a3, a4, a5, a6, a7, a8⟩ := unhide HA
  go_wp2_with fail
  clear a0 a1 a2 a3 a4 a5 a6 a7 a8
  refine (unhide HH _).mono ?_
  rintro _ w3 ⟨rfl, hbl⟩
  have HB := hide (bthen (unhide HB) hbl)
  have HA := hide ((unhide HA).below hbl)
  clear hbl
  obtain ⟨a0, a1, a2, a3, a4, a5, a6, a7, a8⟩ := unhide HA
  go_wp2_with fail
  refine (unhide HF _).mono ?_
  rintro _ w4 ⟨rfl, hbl⟩
  have HB := hide (bthen (unhide HB) hbl)
  clear hbl
  go_wp2_with fail
  go_ret
  exact ⟨rfl, unhide HB⟩

set_option maxRecDepth 100000 in
set_option maxHeartbeats 4000000 in
theorem nearest_de {h l E w f L M V T Nn s hb0 ob : Int} {n m : Bool} (W : World) (HN : Ct 265 #[.agg #[.bool n, .int .u64 h, .int .u64 l, .int .i64 E, .bool m]] (.bool false)) (HT : Ct 266 #[.agg #[.bool n, .int .u64 h, .int .u64 l, .int .i64 E, .bool m]] (.int .i64 T)) (kt : IntKind.i64.wrap (T - f) = T - f) (xm : ¬ T - f < L)
    (kN : Nn / 2 = s) (ka : bits .and .u64 Nn 1 = hb0) (kh : (hb0 == 1) = true) (ks : bits .and .u64 s 1 = ob) (ko : (ob == 1) = false)
    (HH : Ct 267 #[.agg #[.bool n, .int .u64 h, .int .u64 l, .int .i64 E, .bool m], .int .i64 (T - f)] (.tuple #[.int .u64 Nn, .bool false])) (HF : Ct 268 #[.agg #[.bool n, .int .u64 h, .int .u64 l, .int .i64 E, .bool m, .int .i64 w, .int .i64 f, .int .i64 L, .int .i64 M], .int .u64 s, .int .i64 (T - f)] (.int .u64 V)) :
    Calls Tryz.prog 238 #[.agg #[.bool n, .int .u64 h, .int .u64 l, .int .i64 E, .bool m, .int .i64 w, .int .i64 f, .int .i64 L, .int .i64 M]] W fun r W' => r = .returned (.int .u64 V) ∧ Below W.heap.size W W' := by
  go_enter Tryz.func238, Tryz.ntmps238
  go_wp2_with fail
  refine (unhide HN _).mono ?_
  rintro _ w1 ⟨rfl, hb⟩
  have HA := hide ((at9_new W _ _ _ _ _ _ _ _ _ 202).below hb)
  have HB := hide (bthen (below1 _ _) hb)
  clear hb
  go_wp2_with fail
  have HB := hide (unhide HB).drew
  have HA := hide ((unhide HA).below ((Below.refl _ _).drew))
  refine wp_region_held_drew (S := fun w' => w'.cell? ⟨W.heap.size, 0, none⟩ = some (.bool n) ∧ w'.cell? ⟨W.heap.size, 1, none⟩ = some (.int .u64 h) ∧ w'.cell? ⟨W.heap.size, 2, none⟩ = some (.int .u64 l) ∧ w'.cell? ⟨W.heap.size, 3, none⟩ = some (.int .i64 E) ∧ w'.cell? ⟨W.heap.size, 4, none⟩ = some (.bool m) ∧ w'.cell? ⟨W.heap.size, 5, none⟩ = some (.int .i64 w) ∧ w'.cell? ⟨W.heap.size, 6, none⟩ = some (.int .i64 f) ∧ w'.cell? ⟨W.heap.size, 7, none⟩ = some (.int .i64 L) ∧ w'.cell? ⟨W.heap.size, 8, none⟩ = some (.int .i64 M)) (by kernel_rfl) ?_ (fun hHeld => ?_)
  · (try dsimp only)
    exact unhide HA
  refine lst0 12 (by kernel_rfl) ?_
  refine tkA 0 18 1 ?_
  refine tkA 1 19 3 ?_
  refine tkA 3 21 11 ?_
  refine tkA 4 22 27 ?_
  refine tkA 5 23 59 ?_
  refine tkA 7 25 187 ?_
  refine tkA 8 26 443 ?_
  refine tkA 9 27 955 ?_
  refine rdA 2 959 (fun Kk hKk => ?_)
  go_simp
  refine (unhide HT _).mono ?_
  rintro _ w2 ⟨rfl, hbl⟩
  have HB := hide (bthen (unhide HB) hbl)
  have HA := hide ((unhide HA).below hbl)
  clear hbl
  (try go_wp2_with fail)
  refine hKk.out _ _ ?_ (fun hHeld => ?_)
  · (try dsimp only)
    exact unhide HA
  clear hKk Kk
  (try simp only [List.setIfInBounds_toArray, List.set_cons_zero, List.set_cons_succ])
  refine tkA 6 24 1023 ?_
  refine tkA 10 28 2047 ?_
  refine tkA 11 3 4095 ?_
  refine wpAnyH_done (by kernel_rfl) ?_ _
  clear hHeld
  obtain ⟨a0, a1, a2, a3, a4, a5, a6, a7, a8⟩ := unhide HA
  go_wp2_with fail
  clear a0 a1 a2 a3 a4 a5 a6 a7 a8
  refine (unhide HH _).mono ?_
  rintro _ w3 ⟨rfl, hbl⟩
  have HB := hide (bthen (unhide HB) hbl)
  have HA := hide ((unhide HA).below hbl)
  clear hbl
  obtain ⟨a0, a1, a2, a3, a4, a5, a6, a7, a8⟩ := unhide HA
  go_wp2_with fail
  refine (unhide HF _).mono ?_
  rintro _ w4 ⟨rfl, hbl⟩
  have HB := hide (bthen (unhide HB) hbl)
  clear hbl
  go_wp2_with fail
  go_ret
  exact ⟨rfl, unhide HB⟩

set_option maxRecDepth 100000 in
set_option maxHeartbeats 4000000 in
theorem nearest_ln {h l E w f L M V T Nn s hb0 : Int} {n m lost : Bool} (W : World) (HN : Ct 265 #[.agg #[.bool n, .int .u64 h, .int .u64 l, .int .i64 E, .bool m]] (.bool false)) (HT : Ct 266 #[.agg #[.bool n, .int .u64 h, .int .u64 l, .int .i64 E, .bool m]] (.int .i64 T)) (kt : IntKind.i64.wrap (T - f) = T - f) (xm : T - f < L)
    (kN : Nn / 2 = s) (ka : bits .and .u64 Nn 1 = hb0) (kh : (hb0 == 1) = false)
    (HH : Ct 267 #[.agg #[.bool n, .int .u64 h, .int .u64 l, .int .i64 E, .bool m], .int .i64 L] (.tuple #[.int .u64 Nn, .bool lost])) (HF : Ct 268 #[.agg #[.bool n, .int .u64 h, .int .u64 l, .int .i64 E, .bool m, .int .i64 w, .int .i64 f, .int .i64 L, .int .i64 M], .int .u64 s, .int .i64 L] (.int .u64 V)) :
    Calls Tryz.prog 238 #[.agg #[.bool n, .int .u64 h, .int .u64 l, .int .i64 E, .bool m, .int .i64 w, .int .i64 f, .int .i64 L, .int .i64 M]] W fun r W' => r = .returned (.int .u64 V) ∧ Below W.heap.size W W' := by
  go_enter Tryz.func238, Tryz.ntmps238
  go_wp2_with fail
  refine (unhide HN _).mono ?_
  rintro _ w1 ⟨rfl, hb⟩
  have HA := hide ((at9_new W _ _ _ _ _ _ _ _ _ 202).below hb)
  have HB := hide (bthen (below1 _ _) hb)
  clear hb
  go_wp2_with fail
  have HB := hide (unhide HB).drew
  have HA := hide ((unhide HA).below ((Below.refl _ _).drew))
  refine wp_region_held_drew (S := fun w' => w'.cell? ⟨W.heap.size, 0, none⟩ = some (.bool n) ∧ w'.cell? ⟨W.heap.size, 1, none⟩ = some (.int .u64 h) ∧ w'.cell? ⟨W.heap.size, 2, none⟩ = some (.int .u64 l) ∧ w'.cell? ⟨W.heap.size, 3, none⟩ = some (.int .i64 E) ∧ w'.cell? ⟨W.heap.size, 4, none⟩ = some (.bool m) ∧ w'.cell? ⟨W.heap.size, 5, none⟩ = some (.int .i64 w) ∧ w'.cell? ⟨W.heap.size, 6, none⟩ = some (.int .i64 f) ∧ w'.cell? ⟨W.heap.size, 7, none⟩ = some (.int .i64 L) ∧ w'.cell? ⟨W.heap.size, 8, none⟩ = some (.int .i64 M)) (by kernel_rfl) ?_ (fun hHeld => ?_)
  · (try dsimp only)
    exact unhide HA
  refine lst0 12 (by kernel_rfl) ?_
  refine tkA 0 18 1 ?_
  refine tkA 1 19 3 ?_
  refine tkA 3 21 11 ?_
  refine tkA 4 22 27 ?_
  refine tkA 5 23 59 ?_
  refine tkA 7 25 187 ?_
  refine tkA 8 26 443 ?_
  refine tkA 9 27 955 ?_
  refine rdA 2 959 (fun Kk hKk => ?_)
  go_simp
  refine (unhide HT _).mono ?_
  rintro _ w2 ⟨rfl, hbl⟩
  have HB := hide (bthen (unhide HB) hbl)
  have HA := hide ((unhide HA).below hbl)
  clear hbl
  (try go_wp2_with fail)
  refine hKk.out _ _ ?_ (fun hHeld => ?_)
  · (try dsimp only)
    exact unhide HA
  clear hKk Kk
  (try simp only [List.setIfInBounds_toArray, List.set_cons_zero, List.set_cons_succ])
  refine tkA 6 24 1023 ?_
  refine tkA 10 28 2047 ?_
  refine tkA 11 3 4095 ?_
  refine wpAnyH_done (by kernel_rfl) ?_ _
  clear hHeld
  obtain ⟨a0, a1, a2, a3, a4, a5, a6, a7, a8⟩ := unhide HA
  go_wp2_with fail
  clear a0 a1 a2 a3 a4 a5 a6 a7 a8
  refine (unhide HH _).mono ?_
  rintro _ w3 ⟨rfl, hbl⟩
  have HB := hide (bthen (unhide HB) hbl)
  have HA := hide ((unhide HA).below hbl)
  clear hbl
  obtain ⟨a0, a1, a2, a3, a4, a5, a6, a7, a8⟩ := unhide HA
  go_wp2_with fail
  refine (unhide HF _).mono ?_
  rintro _ w4 ⟨rfl, hbl⟩
  have HB := hide (bthen (unhide HB) hbl)
  clear hbl
  go_wp2_with fail
  go_ret
  exact ⟨rfl, unhide HB⟩

set_option maxRecDepth 100000 in
set_option maxHeartbeats 4000000 in
theorem nearest_lu {h l E w f L M V T Nn s hb0 : Int} {n m : Bool} (W : World) (HN : Ct 265 #[.agg #[.bool n, .int .u64 h, .int .u64 l, .int .i64 E, .bool m]] (.bool false)) (HT : Ct 266 #[.agg #[.bool n, .int .u64 h, .int .u64 l, .int .i64 E, .bool m]] (.int .i64 T)) (kt : IntKind.i64.wrap (T - f) = T - f) (xm : T - f < L)
    (kN : Nn / 2 = s) (ka : bits .and .u64 Nn 1 = hb0) (kh : (hb0 == 1) = true) (kw : IntKind.u64.wrap (s + 1) = s + 1)
    (HH : Ct 267 #[.agg #[.bool n, .int .u64 h, .int .u64 l, .int .i64 E, .bool m], .int .i64 L] (.tuple #[.int .u64 Nn, .bool true])) (HF : Ct 268 #[.agg #[.bool n, .int .u64 h, .int .u64 l, .int .i64 E, .bool m, .int .i64 w, .int .i64 f, .int .i64 L, .int .i64 M], .int .u64 (s + 1), .int .i64 L] (.int .u64 V)) :
    Calls Tryz.prog 238 #[.agg #[.bool n, .int .u64 h, .int .u64 l, .int .i64 E, .bool m, .int .i64 w, .int .i64 f, .int .i64 L, .int .i64 M]] W fun r W' => r = .returned (.int .u64 V) ∧ Below W.heap.size W W' := by
  go_enter Tryz.func238, Tryz.ntmps238
  go_wp2_with fail
  refine (unhide HN _).mono ?_
  rintro _ w1 ⟨rfl, hb⟩
  have HA := hide ((at9_new W _ _ _ _ _ _ _ _ _ 202).below hb)
  have HB := hide (bthen (below1 _ _) hb)
  clear hb
  go_wp2_with fail
  have HB := hide (unhide HB).drew
  have HA := hide ((unhide HA).below ((Below.refl _ _).drew))
  refine wp_region_held_drew (S := fun w' => w'.cell? ⟨W.heap.size, 0, none⟩ = some (.bool n) ∧ w'.cell? ⟨W.heap.size, 1, none⟩ = some (.int .u64 h) ∧ w'.cell? ⟨W.heap.size, 2, none⟩ = some (.int .u64 l) ∧ w'.cell? ⟨W.heap.size, 3, none⟩ = some (.int .i64 E) ∧ w'.cell? ⟨W.heap.size, 4, none⟩ = some (.bool m) ∧ w'.cell? ⟨W.heap.size, 5, none⟩ = some (.int .i64 w) ∧ w'.cell? ⟨W.heap.size, 6, none⟩ = some (.int .i64 f) ∧ w'.cell? ⟨W.heap.size, 7, none⟩ = some (.int .i64 L) ∧ w'.cell? ⟨W.heap.size, 8, none⟩ = some (.int .i64 M)) (by kernel_rfl) ?_ (fun hHeld => ?_)
  · (try dsimp only)
    exact unhide HA
  refine lst0 12 (by kernel_rfl) ?_
  refine tkA 0 18 1 ?_
  refine tkA 1 19 3 ?_
  refine tkA 3 21 11 ?_
  refine tkA 4 22 27 ?_
  refine tkA 5 23 59 ?_
  refine tkA 7 25 187 ?_
  refine tkA 8 26 443 ?_
  refine tkA 9 27 955 ?_
  refine rdA 2 959 (fun Kk hKk => ?_)
  go_simp
  refine (unhide HT _).mono ?_
  rintro _ w2 ⟨rfl, hbl⟩
  have HB := hide (bthen (unhide HB) hbl)
  have HA := hide ((unhide HA).below hbl)
  clear hbl
  (try go_wp2_with fail)
  refine hKk.out _ _ ?_ (fun hHeld => ?_)
  · (try dsimp only)
    exact unhide HA
  clear hKk Kk
  (try simp only [List.setIfInBounds_toArray, List.set_cons_zero, List.set_cons_succ])
  refine tkA 6 24 1023 ?_
  refine tkA 10 28 2047 ?_
  refine tkA 11 3 4095 ?_
  refine wpAnyH_done (by kernel_rfl) ?_ _
  clear hHeld
  obtain ⟨a0, a1, a2, a3, a4, a5, a6, a7, a8⟩ := unhide HA
  go_wp2_with fail
  clear a0 a1 a2 a3 a4 a5 a6 a7 a8
  refine (unhide HH _).mono ?_
  rintro _ w3 ⟨rfl, hbl⟩
  have HB := hide (bthen (unhide HB) hbl)
  have HA := hide ((unhide HA).below hbl)
  clear hbl
  obtain ⟨a0, a1, a2, a3, a4, a5, a6, a7, a8⟩ := unhide HA
  go_wp2_with fail
  refine (unhide HF _).mono ?_
  rintro _ w4 ⟨rfl, hbl⟩
  have HB := hide (bthen (unhide HB) hbl)
  clear hbl
  go_wp2_with fail
  go_ret
  exact ⟨rfl, unhide HB⟩

set_option maxRecDepth 100000 in
set_option maxHeartbeats 4000000 in
theorem nearest_lo {h l E w f L M V T Nn s hb0 ob : Int} {n m : Bool} (W : World) (HN : Ct 265 #[.agg #[.bool n, .int .u64 h, .int .u64 l, .int .i64 E, .bool m]] (.bool false)) (HT : Ct 266 #[.agg #[.bool n, .int .u64 h, .int .u64 l, .int .i64 E, .bool m]] (.int .i64 T)) (kt : IntKind.i64.wrap (T - f) = T - f) (xm : T - f < L)
    (kN : Nn / 2 = s) (ka : bits .and .u64 Nn 1 = hb0) (kh : (hb0 == 1) = true) (ks : bits .and .u64 s 1 = ob) (ko : (ob == 1) = true) (kw : IntKind.u64.wrap (s + 1) = s + 1)
    (HH : Ct 267 #[.agg #[.bool n, .int .u64 h, .int .u64 l, .int .i64 E, .bool m], .int .i64 L] (.tuple #[.int .u64 Nn, .bool false])) (HF : Ct 268 #[.agg #[.bool n, .int .u64 h, .int .u64 l, .int .i64 E, .bool m, .int .i64 w, .int .i64 f, .int .i64 L, .int .i64 M], .int .u64 (s + 1), .int .i64 L] (.int .u64 V)) :
    Calls Tryz.prog 238 #[.agg #[.bool n, .int .u64 h, .int .u64 l, .int .i64 E, .bool m, .int .i64 w, .int .i64 f, .int .i64 L, .int .i64 M]] W fun r W' => r = .returned (.int .u64 V) ∧ Below W.heap.size W W' := by
  go_enter Tryz.func238, Tryz.ntmps238
  go_wp2_with fail
  refine (unhide HN _).mono ?_
  rintro _ w1 ⟨rfl, hb⟩
  have HA := hide ((at9_new W _ _ _ _ _ _ _ _ _ 202).below hb)
  have HB := hide (bthen (below1 _ _) hb)
  clear hb
  go_wp2_with fail
  have HB := hide (unhide HB).drew
  have HA := hide ((unhide HA).below ((Below.refl _ _).drew))
  refine wp_region_held_drew (S := fun w' => w'.cell? ⟨W.heap.size, 0, none⟩ = some (.bool n) ∧ w'.cell? ⟨W.heap.size, 1, none⟩ = some (.int .u64 h) ∧ w'.cell? ⟨W.heap.size, 2, none⟩ = some (.int .u64 l) ∧ w'.cell? ⟨W.heap.size, 3, none⟩ = some (.int .i64 E) ∧ w'.cell? ⟨W.heap.size, 4, none⟩ = some (.bool m) ∧ w'.cell? ⟨W.heap.size, 5, none⟩ = some (.int .i64 w) ∧ w'.cell? ⟨W.heap.size, 6, none⟩ = some (.int .i64 f) ∧ w'.cell? ⟨W.heap.size, 7, none⟩ = some (.int .i64 L) ∧ w'.cell? ⟨W.heap.size, 8, none⟩ = some (.int .i64 M)) (by kernel_rfl) ?_ (fun hHeld => ?_)
  · (try dsimp only)
    exact unhide HA
  refine lst0 12 (by kernel_rfl) ?_
  refine tkA 0 18 1 ?_
  refine tkA 1 19 3 ?_
  refine tkA 3 21 11 ?_
  refine tkA 4 22 27 ?_
  refine tkA 5 23 59 ?_
  refine tkA 7 25 187 ?_
  refine tkA 8 26 443 ?_
  refine tkA 9 27 955 ?_
  refine rdA 2 959 (fun Kk hKk => ?_)
  go_simp
  refine (unhide HT _).mono ?_
  rintro _ w2 ⟨rfl, hbl⟩
  have HB := hide (bthen (unhide HB) hbl)
  have HA := hide ((unhide HA).below hbl)
  clear hbl
  (try go_wp2_with fail)
  refine hKk.out _ _ ?_ (fun hHeld => ?_)
  · (try dsimp only)
    exact unhide HA
  clear hKk Kk
  (try simp only [List.setIfInBounds_toArray, List.set_cons_zero, List.set_cons_succ])
  refine tkA 6 24 1023 ?_
  refine tkA 10 28 2047 ?_
  refine tkA 11 3 4095 ?_
  refine wpAnyH_done (by kernel_rfl) ?_ _
  clear hHeld
  obtain ⟨a0, a1, a2, a3, a4, a5, a6, a7, a8⟩ := unhide HA
  go_wp2_with fail
  clear a0 a1 a2 a3 a4 a5 a6 a7 a8
  refine (unhide HH _).mono ?_
  rintro _ w3 ⟨rfl, hbl⟩
  have HB := hide (bthen (unhide HB) hbl)
  have HA := hide ((unhide HA).below hbl)
  clear hbl
  obtain ⟨a0, a1, a2, a3, a4, a5, a6, a7, a8⟩ := unhide HA
  go_wp2_with fail
  refine (unhide HF _).mono ?_
  rintro _ w4 ⟨rfl, hbl⟩
  have HB := hide (bthen (unhide HB) hbl)
  clear hbl
  go_wp2_with fail
  go_ret
  exact ⟨rfl, unhide HB⟩

set_option maxRecDepth 100000 in
set_option maxHeartbeats 4000000 in
theorem nearest_le {h l E w f L M V T Nn s hb0 ob : Int} {n m : Bool} (W : World) (HN : Ct 265 #[.agg #[.bool n, .int .u64 h, .int .u64 l, .int .i64 E, .bool m]] (.bool false)) (HT : Ct 266 #[.agg #[.bool n, .int .u64 h, .int .u64 l, .int .i64 E, .bool m]] (.int .i64 T)) (kt : IntKind.i64.wrap (T - f) = T - f) (xm : T - f < L)
    (kN : Nn / 2 = s) (ka : bits .and .u64 Nn 1 = hb0) (kh : (hb0 == 1) = true) (ks : bits .and .u64 s 1 = ob) (ko : (ob == 1) = false)
    (HH : Ct 267 #[.agg #[.bool n, .int .u64 h, .int .u64 l, .int .i64 E, .bool m], .int .i64 L] (.tuple #[.int .u64 Nn, .bool false])) (HF : Ct 268 #[.agg #[.bool n, .int .u64 h, .int .u64 l, .int .i64 E, .bool m, .int .i64 w, .int .i64 f, .int .i64 L, .int .i64 M], .int .u64 s, .int .i64 L] (.int .u64 V)) :
    Calls Tryz.prog 238 #[.agg #[.bool n, .int .u64 h, .int .u64 l, .int .i64 E, .bool m, .int .i64 w, .int .i64 f, .int .i64 L, .int .i64 M]] W fun r W' => r = .returned (.int .u64 V) ∧ Below W.heap.size W W' := by
  go_enter Tryz.func238, Tryz.ntmps238
  go_wp2_with fail
  refine (unhide HN _).mono ?_
  rintro _ w1 ⟨rfl, hb⟩
  have HA := hide ((at9_new W _ _ _ _ _ _ _ _ _ 202).below hb)
  have HB := hide (bthen (below1 _ _) hb)
  clear hb
  go_wp2_with fail
  have HB := hide (unhide HB).drew
  have HA := hide ((unhide HA).below ((Below.refl _ _).drew))
  refine wp_region_held_drew (S := fun w' => w'.cell? ⟨W.heap.size, 0, none⟩ = some (.bool n) ∧ w'.cell? ⟨W.heap.size, 1, none⟩ = some (.int .u64 h) ∧ w'.cell? ⟨W.heap.size, 2, none⟩ = some (.int .u64 l) ∧ w'.cell? ⟨W.heap.size, 3, none⟩ = some (.int .i64 E) ∧ w'.cell? ⟨W.heap.size, 4, none⟩ = some (.bool m) ∧ w'.cell? ⟨W.heap.size, 5, none⟩ = some (.int .i64 w) ∧ w'.cell? ⟨W.heap.size, 6, none⟩ = some (.int .i64 f) ∧ w'.cell? ⟨W.heap.size, 7, none⟩ = some (.int .i64 L) ∧ w'.cell? ⟨W.heap.size, 8, none⟩ = some (.int .i64 M)) (by kernel_rfl) ?_ (fun hHeld => ?_)
  · (try dsimp only)
    exact unhide HA
  refine lst0 12 (by kernel_rfl) ?_
  refine tkA 0 18 1 ?_
  refine tkA 1 19 3 ?_
  refine tkA 3 21 11 ?_
  refine tkA 4 22 27 ?_
  refine tkA 5 23 59 ?_
  refine tkA 7 25 187 ?_
  refine tkA 8 26 443 ?_
  refine tkA 9 27 955 ?_
  refine rdA 2 959 (fun Kk hKk => ?_)
  go_simp
  refine (unhide HT _).mono ?_
  rintro _ w2 ⟨rfl, hbl⟩
  have HB := hide (bthen (unhide HB) hbl)
  have HA := hide ((unhide HA).below hbl)
  clear hbl
  (try go_wp2_with fail)
  refine hKk.out _ _ ?_ (fun hHeld => ?_)
  · (try dsimp only)
    exact unhide HA
  clear hKk Kk
  (try simp only [List.setIfInBounds_toArray, List.set_cons_zero, List.set_cons_succ])
  refine tkA 6 24 1023 ?_
  refine tkA 10 28 2047 ?_
  refine tkA 11 3 4095 ?_
  refine wpAnyH_done (by kernel_rfl) ?_ _
  clear hHeld
  obtain ⟨a0, a1, a2, a3, a4, a5, a6, a7, a8⟩ := unhide HA
  go_wp2_with fail
  clear a0 a1 a2 a3 a4 a5 a6 a7 a8
  refine (unhide HH _).mono ?_
  rintro _ w3 ⟨rfl, hbl⟩
  have HB := hide (bthen (unhide HB) hbl)
  have HA := hide ((unhide HA).below hbl)
  clear hbl
  obtain ⟨a0, a1, a2, a3, a4, a5, a6, a7, a8⟩ := unhide HA
  go_wp2_with fail
  refine (unhide HF _).mono ?_
  rintro _ w4 ⟨rfl, hbl⟩
  have HB := hide (bthen (unhide HB) hbl)
  clear hbl
  go_wp2_with fail
  go_ret
  exact ⟨rfl, unhide HB⟩

end Go.Proofs.YtpbgpdmffejdgaaGreatDoor
namespace Go.Proofs.YtpbgpdmffejdgaaGreatDoor
open Go.RowKit

theorem set_same9 {b o : Nat} {w : World} (h : Room b 9 w) (ho : o < 9) (v : Value) : (w.setCell ⟨b, o, none⟩ v).cell? ⟨b, o, none⟩ = some v := by
  obtain ⟨⟨u, h1⟩, _⟩ := h o ho
  exact World.cell?_setCell_same _ _ _ h1
theorem at9_set9 {b : Nat} {w : World} (h : Room b 9 w) (v0 v1 v2 v3 v4 v5 v6 v7 v8 : Value) :
    At9 b v0 v1 v2 v3 v4 v5 v6 v7 v8 (((((((((w.setCell ⟨b, 0, none⟩ v0).setCell ⟨b, 1, none⟩ v1).setCell ⟨b, 2, none⟩ v2).setCell ⟨b, 3, none⟩ v3).setCell ⟨b, 4, none⟩ v4).setCell ⟨b, 5, none⟩ v5).setCell ⟨b, 6, none⟩ v6).setCell ⟨b, 7, none⟩ v7).setCell ⟨b, 8, none⟩ v8) :=
  ⟨set_off _ (by omega) (set_off _ (by omega) (set_off _ (by omega) (set_off _ (by omega) (set_off _ (by omega) (set_off _ (by omega) (set_off _ (by omega) (set_off _ (by omega) (set_same9 h (by omega) _)))))))),
   set_off _ (by omega) (set_off _ (by omega) (set_off _ (by omega) (set_off _ (by omega) (set_off _ (by omega) (set_off _ (by omega) (set_off _ (by omega) (set_same9 (h.set _ _) (by omega) _))))))),
   set_off _ (by omega) (set_off _ (by omega) (set_off _ (by omega) (set_off _ (by omega) (set_off _ (by omega) (set_off _ (by omega) (set_same9 ((h.set _ _).set _ _) (by omega) _)))))),
   set_off _ (by omega) (set_off _ (by omega) (set_off _ (by omega) (set_off _ (by omega) (set_off _ (by omega) (set_same9 (((h.set _ _).set _ _).set _ _) (by omega) _))))),
   set_off _ (by omega) (set_off _ (by omega) (set_off _ (by omega) (set_off _ (by omega) (set_same9 ((((h.set _ _).set _ _).set _ _).set _ _) (by omega) _)))),
   set_off _ (by omega) (set_off _ (by omega) (set_off _ (by omega) (set_same9 (((((h.set _ _).set _ _).set _ _).set _ _).set _ _) (by omega) _))),
   set_off _ (by omega) (set_off _ (by omega) (set_same9 ((((((h.set _ _).set _ _).set _ _).set _ _).set _ _).set _ _) (by omega) _)),
   set_off _ (by omega) (set_same9 (((((((h.set _ _).set _ _).set _ _).set _ _).set _ _).set _ _).set _ _) (by omega) _),
   set_same9 ((((((((h.set _ _).set _ _).set _ _).set _ _).set _ _).set _ _).set _ _).set _ _) (by omega) _⟩
theorem bset9 {a b : World} {c : Nat} (h : Below a.heap.size a b) (hc : a.heap.size ≤ c) (v0 v1 v2 v3 v4 v5 v6 v7 v8 : Value) :
    Below a.heap.size a (((((((((b.setCell ⟨c, 0, none⟩ v0).setCell ⟨c, 1, none⟩ v1).setCell ⟨c, 2, none⟩ v2).setCell ⟨c, 3, none⟩ v3).setCell ⟨c, 4, none⟩ v4).setCell ⟨c, 5, none⟩ v5).setCell ⟨c, 6, none⟩ v6).setCell ⟨c, 7, none⟩ v7).setCell ⟨c, 8, none⟩ v8) :=
  (bset (bset (bset (bset (bset (bset (bset (bset (bset h _ hc _ _) _ hc _ _) _ hc _ _) _ hc _ _) _ hc _ _) _ hc _ _) _ hc _ _) _ hc _ _) _ hc _ _)
theorem At2.set9 {b c : Nat} {x y : Value} {w : World} (h : At2 b x y w) (hc : b ≠ c) (v0 v1 v2 v3 v4 v5 v6 v7 v8 : Value) :
    At2 b x y (((((((((w.setCell ⟨c, 0, none⟩ v0).setCell ⟨c, 1, none⟩ v1).setCell ⟨c, 2, none⟩ v2).setCell ⟨c, 3, none⟩ v3).setCell ⟨c, 4, none⟩ v4).setCell ⟨c, 5, none⟩ v5).setCell ⟨c, 6, none⟩ v6).setCell ⟨c, 7, none⟩ v7).setCell ⟨c, 8, none⟩ v8) :=
  (((((((((h.set hc _ _).set hc _ _).set hc _ _).set hc _ _).set hc _ _).set hc _ _).set hc _ _).set hc _ _).set hc _ _)
theorem fresh_room9 {N b : Nat} {v0 v1 v2 v3 v4 v5 v6 v7 v8 : Value} {w : World} (h : Fresh N #[v0, v1, v2, v3, v4, v5, v6, v7, v8] b w) : Room b 9 w := fun o ho => by
  refine ⟨?_, h.thawed o⟩
  match o, ho with
  | 0, _ => exact ⟨_, h.cell 0 _ rfl⟩
  | 1, _ => exact ⟨_, h.cell 1 _ rfl⟩
  | 2, _ => exact ⟨_, h.cell 2 _ rfl⟩
  | 3, _ => exact ⟨_, h.cell 3 _ rfl⟩
  | 4, _ => exact ⟨_, h.cell 4 _ rfl⟩
  | 5, _ => exact ⟨_, h.cell 5 _ rfl⟩
  | 6, _ => exact ⟨_, h.cell 6 _ rfl⟩
  | 7, _ => exact ⟨_, h.cell 7 _ rfl⟩
  | 8, _ => exact ⟨_, h.cell 8 _ rfl⟩

set_option maxRecDepth 100000 in
set_option maxHeartbeats 2000000 in
theorem floatsOf_l {w e f X1 S1 K1 X2 S2 K2 Mx : Int} {n1 n2 : Bool} (W : World) (HF : Ct 23 #[.int .i64 w] (.tuple #[.int .i64 e, .int .i64 f]))
    (H1 : Ct 15 #[.int .i64 w, .int .u64 1] (.agg #[.bool n1, .int .i64 K1, .int .i64 X1, .int .u64 S1])) (HM : Ct 55 #[.int .i64 w, .bool false] (.int .u64 Mx))
    (H2 : Ct 15 #[.int .i64 w, .int .u64 Mx] (.agg #[.bool n2, .int .i64 K2, .int .i64 X2, .int .u64 S2])) :
    Calls Tryz.prog 237 #[.int .i64 w] W fun r W' => r = .returned (.agg #[.int .i64 w, .int .i64 f, .int .i64 X1, .int .i64 X2]) ∧ Below W.heap.size W W' := by
  have f1 : ∀ W : World, (Instr.field 37 (.agg #[.bool n1, .int .i64 K1, .int .i64 X1, .int .u64 S1]) 2).run Tryz.prog W = .ok (.int .i64 X1) W := fun _ => by kernel_rfl
  have f2 : ∀ W : World, (Instr.field 37 (.agg #[.bool n2, .int .i64 K2, .int .i64 X2, .int .u64 S2]) 2).run Tryz.prog W = .ok (.int .i64 X2) W := fun _ => by kernel_rfl
  have HR : Hid (Room W.heap.size 4 (W.alloc (.cells #[.int .i64 0, .int .i64 0, .int .i64 0, .int .i64 0] 199))) := room4 (Below.refl _ _)
  have HB := hide (below1 W (.cells #[.int .i64 0, .int .i64 0, .int .i64 0, .int .i64 0] 199))
  go_enter Tryz.func237, Tryz.ntmps237
  go_wp2_with fail
  refine (unhide HF _).mono ?_
  rintro _ w1 ⟨rfl, hbl⟩
  have HB := hide (bthen (unhide HB) hbl)
  have HR := hide ((unhide HR).below hbl)
  clear hbl
  go_wp2_with fail
  refine (unhide H1 _).mono ?_
  rintro _ w2 ⟨rfl, hbl⟩
  have HB := hide (bthen (unhide HB) hbl)
  have HR := hide ((unhide HR).below hbl)
  clear hbl
  go_wp2_with fail
  refine (unhide HM _).mono ?_
  rintro _ w3 ⟨rfl, hbl⟩
  have HB := hide (bthen (unhide HB) hbl)
  have HR := hide ((unhide HR).below hbl)
  clear hbl
  go_wp2_with fail
  refine (unhide H2 _).mono ?_
  rintro _ w4 ⟨rfl, hbl⟩
  have HB := hide (bthen (unhide HB) hbl)
  have HR := hide ((unhide HR).below hbl)
  clear hbl
  obtain ⟨⟨v0, c0⟩, r0⟩ := (unhide HR) 0 (by omega)
  obtain ⟨⟨v1, c1⟩, r1⟩ := (unhide HR) 1 (by omega)
  obtain ⟨⟨v2, c2⟩, r2⟩ := (unhide HR) 2 (by omega)
  obtain ⟨⟨v3, c3⟩, r3⟩ := (unhide HR) 3 (by omega)
  go_wp2_with fail
  exact bodyPost_ret (v := .agg #[.int .i64 w, .int .i64 f, .int .i64 X1, .int .i64 X2]) (by simp (maxDischargeDepth := 8) [results, Tryz.results237, go_sem, c0, c1, c2, c3]) rfl ⟨rfl, bset4 (unhide HB) _ _ _ _⟩

set_option maxRecDepth 100000 in
set_option maxHeartbeats 4000000 in
theorem pack_m {w h l X f L M V : Int} {n m : Bool} (W : World) (xa : ¬ X < -4096) (xb : ¬ 4096 < X) (HO : Ct 237 #[.int .i64 w] (.agg #[.int .i64 w, .int .i64 f, .int .i64 L, .int .i64 M]))
    (HN : Ct 238 #[.agg #[.bool n, .int .u64 h, .int .u64 l, .int .i64 X, .bool m, .int .i64 w, .int .i64 f, .int .i64 L, .int .i64 M]] (.int .u64 V)) :
    Calls Tryz.prog 160 #[.int .i64 w, .bool n, .agg #[.int .u64 h, .int .u64 l], .int .i64 X, .bool m] W fun r W' => r = .returned (.int .u64 V) ∧ Below W.heap.size W W' := by
  go_enter Tryz.func160, Tryz.ntmps160
  go_wp2_with fail
  refine wp_region_held_drew (S := fun w' => w'.cell? ⟨W.heap.size, 0, none⟩ = some (.int .u64 h) ∧ w'.cell? ⟨W.heap.size, 1, none⟩ = some (.int .u64 l)) (by kernel_rfl) ?_ (fun hHeld => ?_)
  · (try dsimp only)
    simp [go_sem]
  refine wo_start (N := W.heap.size + 1) (i1 := 8) (d1 := 11) (v1 := #[.bool false, .int .u64 0, .int .u64 0, .int .i64 0, .bool false, .int .i64 0, .int .i64 0, .int .i64 0, .int .i64 0]) (t1 := 202) (f := 1) (n := 8) (T := fun w' => Below W.heap.size W w') (by kernel_rfl) (by kernel_rfl) (fun _ _ _ _ _ h => h) (stable_at2 _ _ _) ?_ (stable_below W) hHeld ((below1 W _).drew) (by simp) ?_
  · intro a w K h
    unfold wpOp
    go_simp
    exact Or.inl h
  clear hHeld
  refine woA 0 15 ?_
  refine woA 1 16 ?_
  refine woA 2 17 ?_
  refine woA 3 18 ?_
  refine woA 4 19 ?_
  refine woA 5 20 ?_
  refine wo_call (c := 6) (o := { dst := some 21, op := _, type := _, pos := _, after := _, guard := _ }) rfl (by kernel_rfl) (by kernel_rfl) (fun u hSu hTu Kk hKk => ?_)
  go_simp
  refine (unhide HO _).mono ?_
  rintro _ wn ⟨rfl, hbl⟩
  have HTn := hide (bthen hTu hbl)
  clear hTu hSu
  (try go_wp2_with fail)
  refine hKk.out _ _ (fun w' => Below W.heap.size W w') (by assumption) (stable_below W) (unhide HTn) ?_
  clear hKk Kk HTn
  (try simp only [Act.put, List.setIfInBounds_toArray, List.set_cons_zero, List.set_cons_succ])
  refine woA 7 22 ?_
  refine wo_fin (by kernel_rfl) (fun wf b1 hSu hTu k1 => ?_)
  (try simp only [Act.put, List.setIfInBounds_toArray, List.set_cons_zero, List.set_cons_succ])
  unfold ptr
  have zb := k1.base
  have HRm := hide (fresh_room9 k1)
  obtain ⟨⟨v0, c0⟩, f0⟩ := (unhide HRm) 0 (by omega)
  obtain ⟨⟨v1, c1⟩, f1⟩ := (unhide HRm) 1 (by omega)
  obtain ⟨⟨v2, c2⟩, f2⟩ := (unhide HRm) 2 (by omega)
  obtain ⟨⟨v3, c3⟩, f3⟩ := (unhide HRm) 3 (by omega)
  obtain ⟨⟨v4, c4⟩, f4⟩ := (unhide HRm) 4 (by omega)
  obtain ⟨⟨v5, c5⟩, f5⟩ := (unhide HRm) 5 (by omega)
  obtain ⟨⟨v6, c6⟩, f6⟩ := (unhide HRm) 6 (by omega)
  obtain ⟨⟨v7, c7⟩, f7⟩ := (unhide HRm) 7 (by omega)
  obtain ⟨⟨v8, c8⟩, f8⟩ := (unhide HRm) 8 (by omega)
  refine anyH_at #[true, true, true, true, true, true, true, true, true, false] (by kernel_rfl) ?_
  refine wpAnyH_ready (rs := [9]) (by kernel_rfl) (by simp) ?_
  refine AllReadyH.cons (o := { dst := none, op := _, type := _, pos := _, after := _, guard := _ }) rfl (fun Kk hKk => ?_) AllReadyH.nil
  go_simp
  refine hKk.out _ _ ?_ (fun hHeld => ?_)
  · (try dsimp only)
    exact At2.set9 hSu (by omega) _ _ _ _ _ _ _ _ _
  clear hKk Kk
  refine wpAnyH_done (by kernel_rfl) ?_ _
  have HA9 := hide (at9_set9 (unhide HRm) (.bool n) (.int .u64 h) (.int .u64 l) (.int .i64 X) (.bool m) (.int .i64 w) (.int .i64 f) (.int .i64 L) (.int .i64 M))
  have HB := hide (bset9 (c := b1) hTu (by omega) (.bool n) (.int .u64 h) (.int .u64 l) (.int .i64 X) (.bool m) (.int .i64 w) (.int .i64 f) (.int .i64 L) (.int .i64 M))
  clear hHeld hSu hTu k1 c0 c1 c2 c3 c4 c5 c6 c7 c8 f0 f1 f2 f3 f4 f5 f6 f7 f8
  generalize ((((((((wf.setCell ⟨b1, 0, none⟩ (.bool n)).setCell ⟨b1, 1, none⟩ (.int .u64 h)).setCell ⟨b1, 2, none⟩ (.int .u64 l)).setCell ⟨b1, 3, none⟩ (.int .i64 X)).setCell ⟨b1, 4, none⟩ (.bool m)).setCell ⟨b1, 5, none⟩ (.int .i64 w)).setCell ⟨b1, 6, none⟩ (.int .i64 f)).setCell ⟨b1, 7, none⟩ (.int .i64 L)).setCell ⟨b1, 8, none⟩ (.int .i64 M) = wx at *
  obtain ⟨a0, a1, a2, a3, a4, a5, a6, a7, a8⟩ := unhide HA9
  go_wp2_with fail
  refine (unhide HN _).mono ?_
  rintro _ wz ⟨rfl, hbl⟩
  have HB := hide (bthen (unhide HB) hbl)
  go_wp2_with fail
  go_ret
  exact ⟨rfl, unhide HB⟩

set_option maxRecDepth 100000 in
set_option maxHeartbeats 4000000 in
theorem pack_l {w h l X f L M V : Int} {n m : Bool} (W : World) (xa : X < -4096) (HO : Ct 237 #[.int .i64 w] (.agg #[.int .i64 w, .int .i64 f, .int .i64 L, .int .i64 M]))
    (HN : Ct 238 #[.agg #[.bool n, .int .u64 h, .int .u64 l, .int .i64 (-4096), .bool m, .int .i64 w, .int .i64 f, .int .i64 L, .int .i64 M]] (.int .u64 V)) :
    Calls Tryz.prog 160 #[.int .i64 w, .bool n, .agg #[.int .u64 h, .int .u64 l], .int .i64 X, .bool m] W fun r W' => r = .returned (.int .u64 V) ∧ Below W.heap.size W W' := by
  go_enter Tryz.func160, Tryz.ntmps160
  go_wp2_with fail
  refine wp_region_held_drew (S := fun w' => w'.cell? ⟨W.heap.size, 0, none⟩ = some (.int .u64 h) ∧ w'.cell? ⟨W.heap.size, 1, none⟩ = some (.int .u64 l)) (by kernel_rfl) ?_ (fun hHeld => ?_)
  · (try dsimp only)
    simp [go_sem]
  refine wo_start (N := W.heap.size + 1) (i1 := 8) (d1 := 11) (v1 := #[.bool false, .int .u64 0, .int .u64 0, .int .i64 0, .bool false, .int .i64 0, .int .i64 0, .int .i64 0, .int .i64 0]) (t1 := 202) (f := 1) (n := 8) (T := fun w' => Below W.heap.size W w') (by kernel_rfl) (by kernel_rfl) (fun _ _ _ _ _ h => h) (stable_at2 _ _ _) ?_ (stable_below W) hHeld ((below1 W _).drew) (by simp) ?_
  · intro a w K h
    unfold wpOp
    go_simp
    exact Or.inl h
  clear hHeld
  refine woA 0 15 ?_
  refine woA 1 16 ?_
  refine woA 2 17 ?_
  refine woA 3 18 ?_
  refine woA 4 19 ?_
  refine woA 5 20 ?_
  refine wo_call (c := 6) (o := { dst := some 21, op := _, type := _, pos := _, after := _, guard := _ }) rfl (by kernel_rfl) (by kernel_rfl) (fun u hSu hTu Kk hKk => ?_)
  go_simp
  refine (unhide HO _).mono ?_
  rintro _ wn ⟨rfl, hbl⟩
  have HTn := hide (bthen hTu hbl)
  clear hTu hSu
  (try go_wp2_with fail)
  refine hKk.out _ _ (fun w' => Below W.heap.size W w') (by assumption) (stable_below W) (unhide HTn) ?_
  clear hKk Kk HTn
  (try simp only [Act.put, List.setIfInBounds_toArray, List.set_cons_zero, List.set_cons_succ])
  refine woA 7 22 ?_
  refine wo_fin (by kernel_rfl) (fun wf b1 hSu hTu k1 => ?_)
  (try simp only [Act.put, List.setIfInBounds_toArray, List.set_cons_zero, List.set_cons_succ])
  unfold ptr
  have zb := k1.base
  have HRm := hide (fresh_room9 k1)
  obtain ⟨⟨v0, c0⟩, f0⟩ := (unhide HRm) 0 (by omega)
  obtain ⟨⟨v1, c1⟩, f1⟩ := (unhide HRm) 1 (by omega)
  obtain ⟨⟨v2, c2⟩, f2⟩ := (unhide HRm) 2 (by omega)
  obtain ⟨⟨v3, c3⟩, f3⟩ := (unhide HRm) 3 (by omega)
  obtain ⟨⟨v4, c4⟩, f4⟩ := (unhide HRm) 4 (by omega)
  obtain ⟨⟨v5, c5⟩, f5⟩ := (unhide HRm) 5 (by omega)
  obtain ⟨⟨v6, c6⟩, f6⟩ := (unhide HRm) 6 (by omega)
  obtain ⟨⟨v7, c7⟩, f7⟩ := (unhide HRm) 7 (by omega)
  obtain ⟨⟨v8, c8⟩, f8⟩ := (unhide HRm) 8 (by omega)
  refine anyH_at #[true, true, true, true, true, true, true, true, true, false] (by kernel_rfl) ?_
  refine wpAnyH_ready (rs := [9]) (by kernel_rfl) (by simp) ?_
  refine AllReadyH.cons (o := { dst := none, op := _, type := _, pos := _, after := _, guard := _ }) rfl (fun Kk hKk => ?_) AllReadyH.nil
  go_simp
  refine hKk.out _ _ ?_ (fun hHeld => ?_)
  · (try dsimp only)
    exact At2.set9 hSu (by omega) _ _ _ _ _ _ _ _ _
  clear hKk Kk
  refine wpAnyH_done (by kernel_rfl) ?_ _
  have HA9 := hide (at9_set9 (unhide HRm) (.bool n) (.int .u64 h) (.int .u64 l) (.int .i64 (-4096)) (.bool m) (.int .i64 w) (.int .i64 f) (.int .i64 L) (.int .i64 M))
  have HB := hide (bset9 (c := b1) hTu (by omega) (.bool n) (.int .u64 h) (.int .u64 l) (.int .i64 (-4096)) (.bool m) (.int .i64 w) (.int .i64 f) (.int .i64 L) (.int .i64 M))
  clear hHeld hSu hTu k1 c0 c1 c2 c3 c4 c5 c6 c7 c8 f0 f1 f2 f3 f4 f5 f6 f7 f8
  generalize ((((((((wf.setCell ⟨b1, 0, none⟩ (.bool n)).setCell ⟨b1, 1, none⟩ (.int .u64 h)).setCell ⟨b1, 2, none⟩ (.int .u64 l)).setCell ⟨b1, 3, none⟩ (.int .i64 (-4096))).setCell ⟨b1, 4, none⟩ (.bool m)).setCell ⟨b1, 5, none⟩ (.int .i64 w)).setCell ⟨b1, 6, none⟩ (.int .i64 f)).setCell ⟨b1, 7, none⟩ (.int .i64 L)).setCell ⟨b1, 8, none⟩ (.int .i64 M) = wx at *
  obtain ⟨a0, a1, a2, a3, a4, a5, a6, a7, a8⟩ := unhide HA9
  go_wp2_with fail
  refine (unhide HN _).mono ?_
  rintro _ wz ⟨rfl, hbl⟩
  have HB := hide (bthen (unhide HB) hbl)
  go_wp2_with fail
  go_ret
  exact ⟨rfl, unhide HB⟩

set_option maxRecDepth 100000 in
set_option maxHeartbeats 4000000 in
theorem pack_h {w h l X f L M V : Int} {n m : Bool} (W : World) (xa : ¬ X < -4096) (xb : 4096 < X) (HO : Ct 237 #[.int .i64 w] (.agg #[.int .i64 w, .int .i64 f, .int .i64 L, .int .i64 M]))
    (HN : Ct 238 #[.agg #[.bool n, .int .u64 h, .int .u64 l, .int .i64 4096, .bool m, .int .i64 w, .int .i64 f, .int .i64 L, .int .i64 M]] (.int .u64 V)) :
    Calls Tryz.prog 160 #[.int .i64 w, .bool n, .agg #[.int .u64 h, .int .u64 l], .int .i64 X, .bool m] W fun r W' => r = .returned (.int .u64 V) ∧ Below W.heap.size W W' := by
  go_enter Tryz.func160, Tryz.ntmps160
  go_wp2_with fail
  refine wp_region_held_drew (S := fun w' => w'.cell? ⟨W.heap.size, 0, none⟩ = some (.int .u64 h) ∧ w'.cell? ⟨W.heap.size, 1, none⟩ = some (.int .u64 l)) (by kernel_rfl) ?_ (fun hHeld => ?_)
  · (try dsimp only)
    simp [go_sem]
  refine wo_start (N := W.heap.size + 1) (i1 := 8) (d1 := 11) (v1 := #[.bool false, .int .u64 0, .int .u64 0, .int .i64 0, .bool false, .int .i64 0, .int .i64 0, .int .i64 0, .int .i64 0]) (t1 := 202) (f := 1) (n := 8) (T := fun w' => Below W.heap.size W w') (by kernel_rfl) (by kernel_rfl) (fun _ _ _ _ _ h => h) (stable_at2 _ _ _) ?_ (stable_below W) hHeld ((below1 W _).drew) (by simp) ?_
  · intro a w K h
    unfold wpOp
    go_simp
    exact Or.inl h
  clear hHeld
  refine woA 0 15 ?_
  refine woA 1 16 ?_
  refine woA 2 17 ?_
  refine woA 3 18 ?_
  refine woA 4 19 ?_
  refine woA 5 20 ?_
  refine wo_call (c := 6) (o := { dst := some 21, op := _, type := _, pos := _, after := _, guard := _ }) rfl (by kernel_rfl) (by kernel_rfl) (fun u hSu hTu Kk hKk => ?_)
  go_simp
  refine (unhide HO _).mono ?_
  rintro _ wn ⟨rfl, hbl⟩
  have HTn := hide (bthen hTu hbl)
  clear hTu hSu
  (try go_wp2_with fail)
  refine hKk.out _ _ (fun w' => Below W.heap.size W w') (by assumption) (stable_below W) (unhide HTn) ?_
  clear hKk Kk HTn
  (try simp only [Act.put, List.setIfInBounds_toArray, List.set_cons_zero, List.set_cons_succ])
  refine woA 7 22 ?_
  refine wo_fin (by kernel_rfl) (fun wf b1 hSu hTu k1 => ?_)
  (try simp only [Act.put, List.setIfInBounds_toArray, List.set_cons_zero, List.set_cons_succ])
  unfold ptr
  have zb := k1.base
  have HRm := hide (fresh_room9 k1)
  obtain ⟨⟨v0, c0⟩, f0⟩ := (unhide HRm) 0 (by omega)
  obtain ⟨⟨v1, c1⟩, f1⟩ := (unhide HRm) 1 (by omega)
  obtain ⟨⟨v2, c2⟩, f2⟩ := (unhide HRm) 2 (by omega)
  obtain ⟨⟨v3, c3⟩, f3⟩ := (unhide HRm) 3 (by omega)
  obtain ⟨⟨v4, c4⟩, f4⟩ := (unhide HRm) 4 (by omega)
  obtain ⟨⟨v5, c5⟩, f5⟩ := (unhide HRm) 5 (by omega)
  obtain ⟨⟨v6, c6⟩, f6⟩ := (unhide HRm) 6 (by omega)
  obtain ⟨⟨v7, c7⟩, f7⟩ := (unhide HRm) 7 (by omega)
  obtain ⟨⟨v8, c8⟩, f8⟩ := (unhide HRm) 8 (by omega)
  refine anyH_at #[true, true, true, true, true, true, true, true, true, false] (by kernel_rfl) ?_
  refine wpAnyH_ready (rs := [9]) (by kernel_rfl) (by simp) ?_
  refine AllReadyH.cons (o := { dst := none, op := _, type := _, pos := _, after := _, guard := _ }) rfl (fun Kk hKk => ?_) AllReadyH.nil
  go_simp
  refine hKk.out _ _ ?_ (fun hHeld => ?_)
  · (try dsimp only)
    exact At2.set9 hSu (by omega) _ _ _ _ _ _ _ _ _
  clear hKk Kk
  refine wpAnyH_done (by kernel_rfl) ?_ _
  have HA9 := hide (at9_set9 (unhide HRm) (.bool n) (.int .u64 h) (.int .u64 l) (.int .i64 4096) (.bool m) (.int .i64 w) (.int .i64 f) (.int .i64 L) (.int .i64 M))
  have HB := hide (bset9 (c := b1) hTu (by omega) (.bool n) (.int .u64 h) (.int .u64 l) (.int .i64 4096) (.bool m) (.int .i64 w) (.int .i64 f) (.int .i64 L) (.int .i64 M))
  clear hHeld hSu hTu k1 c0 c1 c2 c3 c4 c5 c6 c7 c8 f0 f1 f2 f3 f4 f5 f6 f7 f8
  generalize ((((((((wf.setCell ⟨b1, 0, none⟩ (.bool n)).setCell ⟨b1, 1, none⟩ (.int .u64 h)).setCell ⟨b1, 2, none⟩ (.int .u64 l)).setCell ⟨b1, 3, none⟩ (.int .i64 4096)).setCell ⟨b1, 4, none⟩ (.bool m)).setCell ⟨b1, 5, none⟩ (.int .i64 w)).setCell ⟨b1, 6, none⟩ (.int .i64 f)).setCell ⟨b1, 7, none⟩ (.int .i64 L)).setCell ⟨b1, 8, none⟩ (.int .i64 M) = wx at *
  obtain ⟨a0, a1, a2, a3, a4, a5, a6, a7, a8⟩ := unhide HA9
  go_wp2_with fail
  refine (unhide HN _).mono ?_
  rintro _ wz ⟨rfl, hbl⟩
  have HB := hide (bthen (unhide HB) hbl)
  go_wp2_with fail
  go_ret
  exact ⟨rfl, unhide HB⟩

end Go.Proofs.YtpbgpdmffejdgaaGreatDoor
namespace Go.Proofs.YtpbgpdmffejdgaaGreatDoor
open Go.RowKit
open Go.Proofs.YtpbgpdmffejdgaaGreatDoor.W

/-- What is taken of the halves. -/
def pick (N : Nat) (lost : Bool) : Nat := if N % 2 = 1 ∧ (lost = true ∨ N / 2 % 2 = 1) then N / 2 + 1 else N / 2

theorem half_parts (N : Nat) (h : N < 4611686018427387904) : (N : Int) / 2 = ((N / 2 : Nat) : Int) ∧ bits .and .u64 (N : Int) 1 = ((N % 2 : Nat) : Int) := by
  refine ⟨by omega, ?_⟩
  rw [and_mask 1 (N : Int) 1 (by omega) (by omega) rfl (by omega)]
  omega

theorem nearest_pick {h l E w f L M V T U : Int} {n m lost : Bool} {N s : Nat} (W : World) (HN : Ct 265 #[.agg #[.bool n, .int .u64 h, .int .u64 l, .int .i64 E, .bool m]] (.bool false)) (HT : Ct 266 #[.agg #[.bool n, .int .u64 h, .int .u64 l, .int .i64 E, .bool m]] (.int .i64 T))
    (t0 : -10000 ≤ T) (t1 : T ≤ 10000) (f0 : 0 ≤ f) (f1 : f ≤ 63) (hU : U = if T - f < L then L else T - f) (hN : N < 4611686018427387904) (hs : pick N lost = s)
    (HH : Ct 267 #[.agg #[.bool n, .int .u64 h, .int .u64 l, .int .i64 E, .bool m], .int .i64 U] (.tuple #[.int .u64 (N : Int), .bool lost])) (HF : Ct 268 #[.agg #[.bool n, .int .u64 h, .int .u64 l, .int .i64 E, .bool m, .int .i64 w, .int .i64 f, .int .i64 L, .int .i64 M], .int .u64 (s : Int), .int .i64 U] (.int .u64 V)) :
    Calls Tryz.prog 238 #[.agg #[.bool n, .int .u64 h, .int .u64 l, .int .i64 E, .bool m, .int .i64 w, .int .i64 f, .int .i64 L, .int .i64 M]] W fun r W' => r = .returned (.int .u64 V) ∧ Below W.heap.size W W' := by
  have kt : IntKind.i64.wrap (T - f) = T - f := i64_id (by omega) (by omega)
  obtain ⟨kN, ka⟩ := half_parts N hN
  obtain ⟨_, kb⟩ := half_parts (N / 2) (by omega)
  have kw : IntKind.u64.wrap (((N / 2 : Nat) : Int) + 1) = ((N / 2 : Nat) : Int) + 1 := by rw [IntKind.wrap_u64]; omega
  unfold pick at hs
  by_cases h1 : N % 2 = 1
  · have kh : (((N % 2 : Nat) : Int) == 1) = true := eq_t (by omega)
    cases lost
    · by_cases h2 : N / 2 % 2 = 1
      · have ko : (((N / 2 % 2 : Nat) : Int) == 1) = true := eq_t (by omega)
        rw [if_pos ⟨h1, Or.inr h2⟩] at hs
        rw [← hs, show ((N / 2 + 1 : Nat) : Int) = ((N / 2 : Nat) : Int) + 1 by omega] at HF
        by_cases xm : T - f < L
        · rw [if_pos xm] at hU; subst hU
          exact nearest_lo W HN HT kt xm kN ka kh kb ko kw HH HF
        · rw [if_neg xm] at hU; subst hU
          exact nearest_do W HN HT kt xm kN ka kh kb ko kw HH HF
      · have ko : (((N / 2 % 2 : Nat) : Int) == 1) = false := eq_f (by omega)
        rw [if_neg (by simp; omega)] at hs
        rw [← hs] at HF
        by_cases xm : T - f < L
        · rw [if_pos xm] at hU; subst hU
          exact nearest_le W HN HT kt xm kN ka kh kb ko HH HF
        · rw [if_neg xm] at hU; subst hU
          exact nearest_de W HN HT kt xm kN ka kh kb ko HH HF
    · rw [if_pos ⟨h1, Or.inl rfl⟩] at hs
      rw [← hs, show ((N / 2 + 1 : Nat) : Int) = ((N / 2 : Nat) : Int) + 1 by omega] at HF
      by_cases xm : T - f < L
      · rw [if_pos xm] at hU; subst hU
        exact nearest_lu W HN HT kt xm kN ka kh kw HH HF
      · rw [if_neg xm] at hU; subst hU
        exact nearest_du W HN HT kt xm kN ka kh kw HH HF
  · have kh : (((N % 2 : Nat) : Int) == 1) = false := eq_f (by omega)
    rw [if_neg (fun hh => h1 hh.1)] at hs
    rw [← hs] at HF
    by_cases xm : T - f < L
    · rw [if_pos xm] at hU; subst hU
      exact nearest_ln W HN HT kt xm kN ka kh HH HF
    · rw [if_neg xm] at hU; subst hU
      exact nearest_dn W HN HT kt xm kN ka kh HH HF

theorem pow_split2 (a b : Nat) (c : Nat) (h : a = b + c) : 2 ^ a = 2 ^ b * 2 ^ c := by rw [h, Nat.pow_add]

theorem halves_near (v : Nat) (n m : Bool) (E U : Int) (hv : W2 v) (e0 : -4096 ≤ E) (e1 : E ≤ 4096) (u0 : -4500 ≤ U) (u1 : U ≤ 5000) (hB : (Go.bitLen v : Int) + E ≤ U + 60) :
    ∃ (N : Nat) (lost : Bool), N < 4611686018427387904 ∧ pick N lost = near ((2 * v + m.toNat) * 2 ^ (E + 4999).toNat) (2 ^ (U + 5000).toNat) ∧
      ∀ W : World, Calls Tryz.prog 267 #[.agg #[.bool n, .int .u64 (hi v), .int .u64 (lo v), .int .i64 E, .bool m], .int .i64 U] W fun r W' => r = .returned (.tuple #[.int .u64 (N : Int), .bool lost]) ∧ Below W.heap.size W W' := by
  have hm : m.toNat ≤ 1 := by cases m <;> simp
  have hm1 : m.toNat = 1 ↔ m = true := by cases m <;> simp
  by_cases g : E < U
  · obtain ⟨j, hj⟩ : ∃ j : Nat, U - E - 1 = j := ⟨(U - E - 1).toNat, by omega⟩
    have hN : v / 2 ^ j < 2 ^ 61 := by
      rw [Nat.div_lt_iff_lt_mul (Nat.two_pow_pos j), ← Nat.pow_add]
      exact bl_lt (by omega)
    refine ⟨v / 2 ^ j, lostB v j || m, by omega, ?_, ?_⟩
    · rw [pow_split2 (U + 5000).toNat (j + 2) (E + 4999).toNat (by omega), near_scale _ _ _ (Nat.two_pow_pos _), near_halves v m.toNat j _ _ hm rfl rfl]
      unfold pick
      have : ((lostB v j || m) = true) = (v % 2 ^ j ≠ 0 ∨ m.toNat = 1) := by
        unfold lostB
        rw [hm1, Int.toNat_natCast]
        simp
      simp only [this]
    · intro W
      have k1 : IntKind.i64.wrap (U - E) = U - E := i64_id (by omega) (by omega)
      have k2 : IntKind.i64.wrap (U - E - 1) = U - E - 1 := i64_id (by omega) (by omega)
      have hr := fun W => right_n v (U - E - 1) W hv
      have el : lo (shrN v (U - E - 1)) = ((v / 2 ^ j : Nat) : Int) := by
        unfold shrN
        rw [hj, Int.toNat_natCast, lo_small (by omega)]
      rw [← el, ← hj]
      cases hl : lostB v (U - E - 1)
      · rw [hl] at hr
        exact halves_gf W (hide hr) g k1 k2
      · rw [hl] at hr
        exact halves_gt W (hide hr) g k1 k2
  · obtain ⟨k, hk⟩ : ∃ k : Nat, E - U = k := ⟨(E - U).toNat, by omega⟩
    have hbl : Go.bitLen v + k ≤ 60 := by omega
    have hvl := bl_lt (x := v) (k := Go.bitLen v) (Nat.le_refl _)
    have hv60 : v < 2 ^ 60 := bl_lt (by omega)
    have hN : (2 * v + m.toNat) * 2 ^ k < 2 ^ 61 := by
      have h1 : (2 * v + m.toNat) * 2 ^ k < 2 ^ (Go.bitLen v + 1) * 2 ^ k := Nat.mul_lt_mul_of_pos_right (by rw [Nat.pow_succ]; omega) (Nat.two_pow_pos k)
      rw [← Nat.pow_add] at h1
      exact Nat.lt_of_lt_of_le h1 (Nat.pow_le_pow_right (by omega) (by omega))
    refine ⟨(2 * v + m.toNat) * 2 ^ k, false, by omega, ?_, ?_⟩
    · rw [pow_split2 (U + 5000).toNat 1 (U + 4999).toNat (by omega), pow_split2 (E + 4999).toNat k (U + 4999).toNat (by omega), ← Nat.mul_assoc, near_scale _ _ _ (Nat.two_pow_pos _), Nat.pow_one, near_two]
      unfold pick
      simp
    · intro W
      have k1 : IntKind.i64.wrap (E - U) = E - U := i64_id (by omega) (by omega)
      have h1 := fun W => left_n v 1 W hv
      have es : shlN v 1 = 2 * v := by
        unfold shlN
        rw [show (1 : Int).toNat = 1 from rfl, Nat.mod_eq_of_lt (by omega)]
        omega
      rw [es] at h1
      have hw : W2 (2 * v + m.toNat) := by unfold W2; omega
      have h2 := fun W => left_n (2 * v + m.toNat) (E - U) W hw
      have es2 : shlN (2 * v + m.toNat) (E - U) = (2 * v + m.toNat) * 2 ^ k := by
        unfold shlN
        rw [hk, Int.toNat_natCast, Nat.mod_eq_of_lt (by omega)]
      have el : lo (shlN (2 * v + m.toNat) (E - U)) = (((2 * v + m.toNat) * 2 ^ k : Nat) : Int) := by
        rw [es2, lo_small (by omega)]
      rw [← el]
      cases m
      · exact halves_lf W (hide h1) (hide h2) g k1
      · have eh : hi (2 * v + Bool.toNat true) = hi (2 * v) := by unfold hi; simp; omega
        have el' : lo (2 * v + Bool.toNat true) = lo (2 * v) + 1 := by unfold lo; simp; omega
        rw [eh, el'] at h2
        exact halves_lt W (hide h1) (hide h2) g k1 (or_sum 1 (lo (2 * v)) 1 (lo_0 _) (lo_1 _) (by unfold lo; simp) (by omega) (by simp) (by omega))

end Go.Proofs.YtpbgpdmffejdgaaGreatDoor
namespace Go.Proofs.YtpbgpdmffejdgaaGreatDoor
open Go.RowKit
open Go.Proofs.YtpbgpdmffejdgaaGreatDoor.W

/-- An exponent, brought near. -/
def cap (X : Int) : Int := if X < -4096 then -4096 else if 4096 < X then 4096 else X
theorem cap_in (X : Int) : -4096 ≤ cap X ∧ cap X ≤ 4096 := by unfold cap; split <;> (try split) <;> omega
/-- The least floats' last bit, 5000 bits up. -/
def lowN (f b : Int) : Nat := (5001 - b - f).toNat
/-- A code, no more than the infinite one's. -/
def lid (P Q c : Int) : Int := if (Q - 1) * P ≤ c then (Q - 1) * P else c
/-- The float of a code and a sign. -/
def fl (f P Q : Int) (n : Bool) (c : Int) : Int := put f P Q n (c / P) (c % P)
/-- The number (2 · v + m) · 2^(X - 1), 5000 bits up. -/
def num (v : Nat) (m : Bool) (X : Int) : Nat := (2 * v + m.toNat) * 2 ^ (X + 4999).toNat

theorem fl_eq {f P Q c x y : Int} (n : Bool) (h1 : c / P = x) (h2 : c % P = y) : fl f P Q n c = put f P Q n x y := by unfold fl; rw [h1, h2]

set_option maxHeartbeats 1000000 in
theorem float_known {w e f P Q b h l E : Int} (k : Kd w e f P Q b) (n m : Bool) (s : Nat) (U : Int) (hs : (s : Int) ≤ 2 * P) (hd : 1 - b - f < U → P ≤ (s : Int)) (hL : 1 - b - f ≤ U) (u1 : U ≤ 10000) (W : World) :
    Calls Tryz.prog 268 #[.agg #[.bool n, .int .u64 h, .int .u64 l, .int .i64 E, .bool m, .int .i64 w, .int .i64 f, .int .i64 (1 - b - f), .int .i64 (Q - 2 - b - f)], .int .u64 (s : Int), .int .i64 U] W fun r W' => r = .returned (.int .u64 (fl f P Q n (lid P Q ((U - (1 - b - f)) * P + (s : Int))))) ∧ Below W.heap.size W W' := by
  have HZ := hide (fun W => zero_any n k.wd W)
  have HI := hide (fun W => inf_any n k.wd W)
  have HC := fun (X S V c : Int) (s0 : 0 ≤ S) (s1 : S < 18446744073709551616) (hc : ClosedF f P Q b n X S V c) => hide (fun W => close_any (K := 1) W k s0 s1 (Or.inl ⟨rfl, hc⟩))
  unfold ClosedF at HC
  have g0 : 0 ≤ f := by rcases k with k | k <;> omega
  have g1 : f ≤ 63 := by rcases k with k | k <;> omega
  have hP : (2 : Int) ^ f.toNat = P := by rcases k with ⟨_, _, rfl, rfl, _⟩ | ⟨_, _, rfl, rfl, _⟩ <;> rfl
  have kd : (s : Int) / 2 ^ f.toNat = (s : Int) / P := by rw [hP]
  have ku : IntKind.i64.wrap (U + 1) = U + 1 := i64_id (by rcases k with k | k <;> omega) (by omega)
  rcases k with ⟨rfl, rfl, rfl, rfl, rfl, rfl⟩ | ⟨rfl, rfl, rfl, rfl, rfl, rfl⟩
  · unfold lid
    by_cases hb : 1 < (s : Int) / 8388608
    · by_cases g : 256 - 2 - 127 - 23 < U + 1
      · rw [if_pos (by omega), fl_eq n (x := 256 - 1) (y := 0) (by rfl) (by rfl)]
        exact float_bi W g0 g1 kd hb rfl ku (eq_f (by omega)) (dt g) HI
      · rw [if_neg (by omega), fl_eq n (x := U + 1 + 127 + 23) (y := 0) (by omega) (by omega)]
        exact float_bc W g0 g1 kd hb rfl ku (eq_f (by omega)) (df g) (HC (U + 1) _ _ 0 (by omega) (by omega) (Or.inr (Or.inl ⟨by omega, by omega, by omega, by omega, by rw [show (s : Int) / 2 % 8388608 = 0 by omega], rfl⟩)))
    · by_cases hz : (s : Int) = 0
      · rw [if_neg (by omega), fl_eq n (x := 0) (y := 0) (by omega) (by omega)]
        exact float_sz W g0 g1 kd hb (eq_t hz) HZ
      · by_cases g : 256 - 2 - 127 - 23 < U
        · rw [if_pos (by omega), fl_eq n (x := 256 - 1) (y := 0) (by rfl) (by rfl)]
          exact float_si W g0 g1 kd hb (eq_f hz) (dt g) HI
        · rw [if_neg (by omega)]
          by_cases ht : (s : Int) < 8388608
          · rw [fl_eq n (x := 0) (y := (s : Int) % 8388608) (by omega) (by omega)]
            exact float_sc W g0 g1 kd hb (eq_f hz) (df g) (HC U _ _ 0 (by omega) (by omega) (Or.inl ⟨ht, hz, by omega, rfl, rfl⟩))
          · rw [fl_eq n (x := U + 127 + 23) (y := (s : Int) % 8388608) (by omega) (by omega)]
            exact float_sc W g0 g1 kd hb (eq_f hz) (df g) (HC U _ _ 0 (by omega) (by omega) (Or.inr (Or.inl ⟨by omega, by omega, by omega, by omega, rfl, rfl⟩)))
  · unfold lid
    by_cases hb : 1 < (s : Int) / 4503599627370496
    · by_cases g : 2048 - 2 - 1023 - 52 < U + 1
      · rw [if_pos (by omega), fl_eq n (x := 2048 - 1) (y := 0) (by rfl) (by rfl)]
        exact float_bi W g0 g1 kd hb rfl ku (eq_f (by omega)) (dt g) HI
      · rw [if_neg (by omega), fl_eq n (x := U + 1 + 1023 + 52) (y := 0) (by omega) (by omega)]
        exact float_bc W g0 g1 kd hb rfl ku (eq_f (by omega)) (df g) (HC (U + 1) _ _ 0 (by omega) (by omega) (Or.inr (Or.inl ⟨by omega, by omega, by omega, by omega, by rw [show (s : Int) / 2 % 4503599627370496 = 0 by omega], rfl⟩)))
    · by_cases hz : (s : Int) = 0
      · rw [if_neg (by omega), fl_eq n (x := 0) (y := 0) (by omega) (by omega)]
        exact float_sz W g0 g1 kd hb (eq_t hz) HZ
      · by_cases g : 2048 - 2 - 1023 - 52 < U
        · rw [if_pos (by omega), fl_eq n (x := 2048 - 1) (y := 0) (by rfl) (by rfl)]
          exact float_si W g0 g1 kd hb (eq_f hz) (dt g) HI
        · rw [if_neg (by omega)]
          by_cases ht : (s : Int) < 4503599627370496
          · rw [fl_eq n (x := 0) (y := (s : Int) % 4503599627370496) (by omega) (by omega)]
            exact float_sc W g0 g1 kd hb (eq_f hz) (df g) (HC U _ _ 0 (by omega) (by omega) (Or.inl ⟨ht, hz, by omega, rfl, rfl⟩))
          · rw [fl_eq n (x := U + 1023 + 52) (y := (s : Int) % 4503599627370496) (by omega) (by omega)]
            exact float_sc W g0 g1 kd hb (eq_f hz) (df g) (HC U _ _ 0 (by omega) (by omega) (Or.inr (Or.inl ⟨by omega, by omega, by omega, by omega, rfl, rfl⟩)))

theorem Kd.pow {w e f P Q b : Int} (k : Kd w e f P Q b) : P = ((2 ^ f.toNat : Nat) : Int) ∧ 0 ≤ f ∧ f ≤ 52 ∧ -1074 ≤ 1 - b - f ∧ 1 - b - f ≤ 0 ∧ 127 ≤ b ∧ b ≤ 1023 := by
  rcases k with ⟨_, _, rfl, rfl, _, rfl⟩ | ⟨_, _, rfl, rfl, _, rfl⟩ <;> exact ⟨rfl, by omega, by omega, by omega, by omega, by omega, by omega⟩

theorem num_len (v : Nat) (m : Bool) (E : Int) (h : ¬ (v = 0 ∧ m = false)) : Go.bitLen (num v m E) = (E + 4999).toNat + (Go.bitLen v + 1) := by
  have hm : m.toNat ≤ 1 := by cases m <;> simp
  have hne : 2 * v + m.toNat ≠ 0 := by cases m <;> simp at h ⊢ <;> omega
  unfold num
  rw [bl_shl _ _ hne, bl_two v m.toNat hm hne]

set_option maxHeartbeats 1000000 in
theorem nearest_known {w e f P Q b : Int} (v : Nat) (n m : Bool) (E : Int) (k : Kd w e f P Q b) (hv : W2 v) (e0 : -4096 ≤ E) (e1 : E ≤ 4096) (W : World) :
    Calls Tryz.prog 238 #[.agg #[.bool n, .int .u64 (hi v), .int .u64 (lo v), .int .i64 E, .bool m, .int .i64 w, .int .i64 f, .int .i64 (1 - b - f), .int .i64 (Q - 2 - b - f)]] W fun r W' => r = .returned (.int .u64 (fl f P Q n (lid P Q (code f.toNat (lowN f b) (num v m E) : Nat)))) ∧ Below W.heap.size W W' := by
  have HN := hide (fun W => isNought_any v E n m W)
  obtain ⟨hP, f0, f1, l0, l1, b0, b1⟩ := k.pow
  by_cases hz : v = 0 ∧ m = false
  · obtain ⟨rfl, rfl⟩ := hz
    have : num 0 false E = 0 := by unfold num; simp
    rw [this, code_zero]
    have hq : ¬ (Q - 1) * P ≤ ((0 : Nat) : Int) := by rcases k with ⟨_, _, _, rfl, rfl, _⟩ | ⟨_, _, _, rfl, rfl, _⟩ <;> omega
    unfold lid
    rw [if_neg hq, fl_eq n (x := 0) (y := 0) (by simp) (by simp)]
    exact nearest_z W HN (hide (fun W => zero_any n k.wd W))
  · have hNv : (decide (v = 0) && !m) = false := by cases m <;> simp at hz ⊢; exact hz
    rw [hNv] at HN
    have hbl : Go.bitLen v ≤ 128 := bitLen_128 hv
    have hl := num_len v m E hz
    have HT := hide (fun W => top_l (n := n) (m := m) W (hide (fun W => len_n v W hv)) (i64_id (x := E + (Go.bitLen v : Int)) (by omega) (by omega)) (i64_id (by omega) (by omega)))
    obtain ⟨U, hU⟩ : ∃ U : Int, U = if E + (Go.bitLen v : Int) - 1 - f < 1 - b - f then 1 - b - f else E + (Go.bitLen v : Int) - 1 - f := ⟨_, rfl⟩
    have hU1 : 1 - b - f ≤ U ∧ E + (Go.bitLen v : Int) - 1 - f ≤ U ∧ U ≤ 5000 := by rw [hU]; split <;> omega
    have hu : unitOf f.toNat (lowN f b) (num v m E) = (U + 5000).toNat := by
      unfold unitOf lowN
      rw [hl, hU]
      split <;> omega
    obtain ⟨N, lost, hN, hp, hH⟩ := halves_near v n m E U hv e0 e1 (by omega) (by omega) (by omega)
    have hup := unit_up f.toNat (lowN f b) (num v m E)
    have hdn := fun h => unit_dn (f := f.toNat) (L := lowN f b) (X := num v m E) h
    have hcode : ((code f.toNat (lowN f b) (num v m E) : Nat) : Int) = (U - (1 - b - f)) * P + (near (num v m E) (2 ^ (U + 5000).toNat) : Nat) := by
      unfold code
      rw [hu, hP, show (U - (1 - b - f)) = (((U + 5000).toNat - lowN f b : Nat) : Int) by unfold lowN; omega]
      simp
    rw [hu] at hup hdn
    change pick N lost = near (num v m E) _ at hp
    generalize hsg : near (num v m E) (2 ^ (U + 5000).toNat) = s at *
    rw [hcode]
    refine nearest_pick (T := E + (Go.bitLen v : Int) - 1) (U := U) (N := N) (s := s) (lost := lost) W HN HT (by omega) (by omega) f0 (by omega) hU hN hp (hide hH) (hide (fun W => float_known k n m s U ?_ ?_ hU1.1 (by omega) W))
    · rw [hP]; omega
    · intro hlt
      rw [hP]
      have := hdn (by unfold lowN; omega)
      omega

theorem floatsOf_known {w e f P Q b : Int} (k : Kd w e f P Q b) (W : World) :
    Calls Tryz.prog 237 #[.int .i64 w] W fun r W' => r = .returned (.agg #[.int .i64 w, .int .i64 f, .int .i64 (1 - b - f), .int .i64 (Q - 2 - b - f)]) ∧ Below W.heap.size W W' := by
  have HF := hide (fun W => fields_any k.wd W)
  have HM := hide (fun W => most_w false k.wd W)
  have hm : put f P Q false (Q - 2) (P - 1) = (Q - 2) * P + (P - 1) := put_no k.f0
  rw [hm] at HM
  have ho1 : Opened f P Q b (sg P Q 1) (1 / P % Q) (1 % P) false 1 (1 - b - f) 1 := by
    unfold Opened sg
    rcases k with ⟨rfl, rfl, rfl, rfl, rfl, rfl⟩ | ⟨rfl, rfl, rfl, rfl, rfl, rfl⟩ <;> simp
  have ho2 : Opened f P Q b (sg P Q ((Q - 2) * P + (P - 1))) (((Q - 2) * P + (P - 1)) / P % Q) (((Q - 2) * P + (P - 1)) % P) false 1 (Q - 2 - b - f) (2 * P - 1) := by
    unfold Opened sg
    rcases k with ⟨rfl, rfl, rfl, rfl, rfl, rfl⟩ | ⟨rfl, rfl, rfl, rfl, rfl, rfl⟩ <;> simp
  have hr : 0 ≤ (Q - 2) * P + (P - 1) ∧ (Q - 2) * P + (P - 1) < 18446744073709551616 := by
    rcases k with ⟨rfl, rfl, rfl, rfl, rfl, rfl⟩ | ⟨rfl, rfl, rfl, rfl, rfl, rfl⟩ <;> omega
  exact floatsOf_l W HF (hide (fun W => open_any 1 k.wd W (by omega) (by omega) ho1)) HM (hide (fun W => open_any _ k.wd W hr.1 hr.2 ho2))

/-- Pack: the float of the number's code. -/
theorem pack_known {w e f P Q b : Int} (v : Nat) (n m : Bool) (X : Int) (k : Kd w e f P Q b) (hv : W2 v) (W : World) :
    Calls Tryz.prog 160 #[.int .i64 w, .bool n, .agg #[.int .u64 (hi v), .int .u64 (lo v)], .int .i64 X, .bool m] W fun r W' => r = .returned (.int .u64 (fl f P Q n (lid P Q (code f.toNat (lowN f b) (num v m (cap X)) : Nat)))) ∧ Below W.heap.size W W' := by
  obtain ⟨c0, c1⟩ := cap_in X
  have HO := hide (fun W => floatsOf_known k W)
  have HN := hide (fun W => nearest_known v n m (cap X) k hv c0 c1 W)
  by_cases h1 : X < -4096
  · have : cap X = -4096 := by unfold cap; rw [if_pos h1]
    rw [this] at HN ⊢
    exact pack_l W h1 HO HN
  · by_cases h2 : 4096 < X
    · have : cap X = 4096 := by unfold cap; rw [if_neg h1, if_pos h2]
      rw [this] at HN ⊢
      exact pack_h W h1 h2 HO HN
    · have : cap X = X := by unfold cap; rw [if_neg h1, if_neg h2]
      rw [this] at HN ⊢
      exact pack_m W h1 h2 HO HN
end Go.Proofs.YtpbgpdmffejdgaaGreatDoor
namespace Go.Proofs.YtpbgpdmffejdgaaGreatDoor
open Go.RowKit
open Go.Proofs.YtpbgpdmffejdgaaGreatDoor.W

set_option maxRecDepth 100000 in
set_option maxHeartbeats 1000000 in
theorem narrow_zero {w K X S V : Int} {n : Bool} (W : World) (k0 : (K == 0) = true) (HC : Ct 155 #[.int .i64 w, .bool n] (.int .u64 V)) :
    Calls Tryz.prog 170 #[.int .i64 w, .agg #[.bool n, .int .i64 K, .int .i64 X, .int .u64 S]] W fun r W' => r = .returned (.int .u64 V) ∧ Below W.heap.size W W' := by
  go_enter Tryz.func170, Tryz.ntmps170
  go_wp2_with fail
  refine (unhide HC _).mono ?_
  rintro _ w1 ⟨rfl, hb⟩
  have HB := hide (bthen (below1 _ _) hb)
  clear hb
  go_wp2_with fail
  go_ret
  exact ⟨rfl, unhide HB⟩
set_option maxRecDepth 100000 in
set_option maxHeartbeats 1000000 in
theorem narrow_inf {w K X S V : Int} {n : Bool} (W : World) (k0 : (K == 0) = false) (k1 : (K == 1) = false) (k2 : (K == 2) = true) (HC : Ct 157 #[.int .i64 w, .bool n] (.int .u64 V)) :
    Calls Tryz.prog 170 #[.int .i64 w, .agg #[.bool n, .int .i64 K, .int .i64 X, .int .u64 S]] W fun r W' => r = .returned (.int .u64 V) ∧ Below W.heap.size W W' := by
  go_enter Tryz.func170, Tryz.ntmps170
  go_wp2_with fail
  refine (unhide HC _).mono ?_
  rintro _ w1 ⟨rfl, hb⟩
  have HB := hide (bthen (below1 _ _) hb)
  clear hb
  go_wp2_with fail
  go_ret
  exact ⟨rfl, unhide HB⟩
set_option maxRecDepth 100000 in
set_option maxHeartbeats 1000000 in
theorem narrow_nan {w K X S V : Int} {n : Bool} (W : World) (k0 : (K == 0) = false) (k1 : (K == 1) = false) (k2 : (K == 2) = false) (k3 : (K == 3) = true) (HC : Ct 156 #[.int .i64 w] (.int .u64 V)) :
    Calls Tryz.prog 170 #[.int .i64 w, .agg #[.bool n, .int .i64 K, .int .i64 X, .int .u64 S]] W fun r W' => r = .returned (.int .u64 V) ∧ Below W.heap.size W W' := by
  go_enter Tryz.func170, Tryz.ntmps170
  go_wp2_with fail
  refine (unhide HC _).mono ?_
  rintro _ w1 ⟨rfl, hb⟩
  have HB := hide (bthen (below1 _ _) hb)
  clear hb
  go_wp2_with fail
  go_ret
  exact ⟨rfl, unhide HB⟩
set_option maxRecDepth 100000 in
set_option maxHeartbeats 1000000 in
theorem narrow_oth {w K X S : Int} {n : Bool} (W : World) (k0 : (K == 0) = false) (k1 : (K == 1) = false) (k2 : (K == 2) = false) (k3 : (K == 3) = false) :
    Calls Tryz.prog 170 #[.int .i64 w, .agg #[.bool n, .int .i64 K, .int .i64 X, .int .u64 S]] W fun r W' => r = .returned (.int .u64 0) ∧ Below W.heap.size W W' := by
  go_enter Tryz.func170, Tryz.ntmps170
  go_wp2_with fail
  go_ret
  exact ⟨rfl, below1 _ _⟩
set_option maxRecDepth 100000 in
set_option maxHeartbeats 1000000 in
theorem narrow_fin {w K X S h l V : Int} {n : Bool} (W : World) (k0 : (K == 0) = false) (k1 : (K == 1) = true) (HO : Ct 161 #[.int .u64 S] (.agg #[.int .u64 h, .int .u64 l])) (HP : Ct 160 #[.int .i64 w, .bool n, .agg #[.int .u64 h, .int .u64 l], .int .i64 X, .bool false] (.int .u64 V)) :
    Calls Tryz.prog 170 #[.int .i64 w, .agg #[.bool n, .int .i64 K, .int .i64 X, .int .u64 S]] W fun r W' => r = .returned (.int .u64 V) ∧ Below W.heap.size W W' := by
  go_enter Tryz.func170, Tryz.ntmps170
  go_wp2_with fail
  have HB := hide ((below1 W (.cells #[.bool n, .int .i64 K, .int .i64 X, .int .u64 S] 37)).drew)
  have HA := hide ((at4_new W (.bool n) (.int .i64 K) (.int .i64 X) (.int .u64 S) 37).below ((Below.refl _ _).drew))
  refine wp_region_held_drew (S := fun w' => w'.cell? ⟨W.heap.size, 0, none⟩ = some (.bool n) ∧ w'.cell? ⟨W.heap.size, 1, none⟩ = some (.int .i64 K) ∧ w'.cell? ⟨W.heap.size, 2, none⟩ = some (.int .i64 X) ∧ w'.cell? ⟨W.heap.size, 3, none⟩ = some (.int .u64 S)) (by kernel_rfl) ?_ (fun hHeld => ?_)
  · (try dsimp only)
    exact unhide HA
  refine lst0 10 (by kernel_rfl) ?_
  refine tkA 0 15 1 ?_
  refine tkA 1 16 3 ?_
  refine tkA 2 17 7 ?_
  refine tkA 3 18 15 ?_
  refine tkA 4 19 31 ?_
  refine tkA 6 21 95 ?_
  refine tkA 7 22 223 ?_
  refine rdA 5 255 (fun Kk hKk => ?_)
  go_simp
  refine (unhide HO _).mono ?_
  rintro _ w1 ⟨rfl, hbl⟩
  have HB := hide (bthen (unhide HB) hbl)
  have HA := hide ((unhide HA).below hbl)
  clear hbl
  (try go_wp2_with fail)
  refine hKk.out _ _ ?_ (fun hHeld => ?_)
  · (try dsimp only)
    exact unhide HA
  clear hKk Kk
  (try simp only [List.setIfInBounds_toArray, List.set_cons_zero, List.set_cons_succ])
  refine rdA 8 511 (fun Kk hKk => ?_)
  go_simp
  refine (unhide HP _).mono ?_
  rintro _ w2 ⟨rfl, hbl⟩
  have HB := hide (bthen (unhide HB) hbl)
  have HA := hide ((unhide HA).below hbl)
  clear hbl
  (try go_wp2_with fail)
  refine hKk.out _ _ ?_ (fun hHeld => ?_)
  · (try dsimp only)
    exact unhide HA
  clear hKk Kk
  (try simp only [List.setIfInBounds_toArray, List.set_cons_zero, List.set_cons_succ])
  refine tkA 9 4 1023 ?_
  refine wpAnyH_done (by kernel_rfl) ?_ _
  go_wp2
  go_ret
  exact ⟨rfl, unhide HB⟩

theorem kd_32 : Kd 32 8 23 8388608 256 127 := Or.inl ⟨rfl, rfl, rfl, rfl, rfl, rfl⟩
theorem kd_64 : Kd 64 11 52 4503599627370496 2048 1023 := Or.inr ⟨rfl, rfl, rfl, rfl, rfl, rfl⟩
end Go.Proofs.YtpbgpdmffejdgaaGreatDoor
namespace Go.Proofs.YtpbgpdmffejdgaaGreatDoor
open Go.RowKit
open Go.Proofs.YtpbgpdmffejdgaaGreatDoor.W

theorem num_exact (s j : Nat) (E : Int) (h : -4999 ≤ E - j) : num (s * 2 ^ j) false (E - j) = s * 2 ^ (E + 5000).toNat := by
  unfold num
  rw [show 2 * (s * 2 ^ j) + Bool.toNat false = s * 2 ^ j * 2 ^ 1 by simp; omega, Nat.mul_assoc, Nat.mul_assoc, ← Nat.pow_add, ← Nat.pow_add, show j + (1 + (E - j + 4999).toNat) = (E + 5000).toNat by omega]
theorem num_plain (s : Nat) (E : Int) (h : -4999 ≤ E) : num s false E = s * 2 ^ (E + 5000).toNat := by
  have := num_exact s 0 E (by omega)
  simpa using this

theorem cap_id {X : Int} (h0 : -4096 ≤ X) (h1 : X ≤ 4096) : cap X = X := by
  unfold cap
  rw [if_neg (by omega), if_neg (by omega)]

theorem lid_in {w e f P Q b : Int} (k : Kd w e f P Q b) (c : Nat) : 0 ≤ lid P Q c ∧ lid P Q c ≤ (Q - 1) * P := by
  have : 0 ≤ (Q - 1) * P := by rcases k with ⟨-, -, -, rfl, rfl, -⟩ | ⟨-, -, -, rfl, rfl, -⟩ <;> omega
  unfold lid
  generalize (Q - 1) * P = I at *
  split <;> omega

end Go.Proofs.YtpbgpdmffejdgaaGreatDoor
namespace Go.Proofs.YtpbgpdmffejdgaaGreatDoor
open Go.RowKit
open Go.Proofs.YtpbgpdmffejdgaaGreatDoor.W

theorem small_w2 {x : Int} (x0 : 0 ≤ x) (x1 : x < 18446744073709551616) : W2 x.toNat := by unfold W2; omega
/-- What parts are narrowed to. -/
def narrowN (f P Q b : Int) (n : Bool) (K X S : Int) : Int :=
  if K = 0 then put f P Q n 0 0 else if K = 1 then fl f P Q n (lid P Q (code f.toNat (lowN f b) (num S.toNat false (cap X)) : Nat)) else if K = 2 then put f P Q n (Q - 1) 0 else if K = 3 then put f P Q false (Q - 1) (P / 2) else 0

theorem narrow_any {w e f P Q b : Int} (k : Kd w e f P Q b) (n : Bool) (K X S : Int) (s0 : 0 ≤ S) (s1 : S < 18446744073709551616) (W : World) :
    Calls Tryz.prog 170 #[.int .i64 w, .agg #[.bool n, .int .i64 K, .int .i64 X, .int .u64 S]] W fun r W' => r = .returned (.int .u64 (narrowN f P Q b n K X S)) ∧ Below W.heap.size W W' := by
  unfold narrowN
  by_cases k0 : K = 0
  · rw [if_pos k0]
    exact narrow_zero W (eq_t k0) (hide (fun W => zero_any n k.wd W))
  · rw [if_neg k0]
    by_cases k1 : K = 1
    · rw [if_pos k1]
      exact narrow_fin W (eq_f k0) (eq_t k1) (hide (fun W => of_n S W s0 s1)) (hide (fun W => pack_known S.toNat n false X k (small_w2 s0 s1) W))
    · rw [if_neg k1]
      by_cases k2 : K = 2
      · rw [if_pos k2]
        exact narrow_inf W (eq_f k0) (eq_f k1) (eq_t k2) (hide (fun W => inf_any n k.wd W))
      · rw [if_neg k2]
        by_cases k3 : K = 3
        · rw [if_pos k3]
          exact narrow_nan W (eq_f k0) (eq_f k1) (eq_f k2) (eq_t k3) (hide (fun W => nan_any k.wd W))
        · rw [if_neg k3]
          exact narrow_oth W (eq_f k0) (eq_f k1) (eq_f k2) (eq_f k3)
end Go.Proofs.YtpbgpdmffejdgaaGreatDoor
namespace Go.Proofs.YtpbgpdmffejdgaaGreatDoor
open Go.RowKit
open Go.Proofs.YtpbgpdmffejdgaaGreatDoor.W

/-- The number of a float's parts, 5000 bits up. -/
def mag (X S : Int) : Nat := S.toNat * 2 ^ (X + 5000).toNat
/-- The float that is nearest to a number. -/
def rd (f P Q b : Int) (n : Bool) (M : Nat) : Int := fl f P Q n (lid P Q (code f.toNat (lowN f b) M : Nat))
/-- The sum of two floats that are taken apart. -/
def addP (f P Q b : Int) (n1 : Bool) (K1 : Int) (M1 : Nat) (n2 : Bool) (K2 : Int) (M2 : Nat) : Int :=
  if K1 = 3 ∨ K2 = 3 ∨ (K1 = 2 ∧ K2 = 2 ∧ n1 ≠ n2) then put f P Q false (Q - 1) (P / 2)
  else if K1 = 2 then put f P Q n1 (Q - 1) 0
  else if K2 = 2 then put f P Q n2 (Q - 1) 0
  else if n1 = n2 then rd f P Q b n1 (M1 + M2)
  else if M1 = M2 then put f P Q false 0 0
  else if M1 < M2 then rd f P Q b n2 (M2 - M1)
  else rd f P Q b n1 (M1 - M2)
/-- What parts of a float there are. -/
def Prt (f P Q b K X S : Int) : Prop :=
  (K = 3 ∧ X = 0 ∧ S = 0) ∨ (K = 2 ∧ X = 0 ∧ S = 0) ∨ (K = 0 ∧ X = 0 ∧ S = 0) ∨
  (K = 1 ∧ 1 - b - f ≤ X ∧ X ≤ Q - 2 - b - f ∧ 0 < S ∧ S < 2 * P ∧ (1 - b - f < X → P ≤ S))

theorem opened_prt {w e f P Q b x y X S K : Int} {n N : Bool} (k : Kd w e f P Q b) (ho : Opened f P Q b n x y N K X S) (x0 : 0 ≤ x) (x1 : x < Q) (y0 : 0 ≤ y) (y1 : y < P) : Prt f P Q b K X S := by
  have hf := k.f0
  unfold Prt
  rcases ho with ⟨h, _⟩ | ⟨_, _, _, _, rfl, rfl, rfl⟩ | ⟨_, _, _, _, rfl, rfl, rfl⟩ | ⟨_, h1, h2, _, rfl, rfl, rfl⟩ | ⟨_, h1, h2, h3, _, rfl, rfl, rfl⟩ | ⟨_, h1, h2, h3, _, rfl, rfl, rfl⟩
  · exact absurd h hf
  · exact Or.inl ⟨rfl, rfl, rfl⟩
  · exact Or.inr (Or.inl ⟨rfl, rfl, rfl⟩)
  · refine Or.inr (Or.inr (Or.inr ⟨rfl, by omega, by omega, by omega, by omega, fun _ => by omega⟩))
  · have : 2 ≤ Q ∧ 1 ≤ P := by rcases k with k | k <;> omega
    refine Or.inr (Or.inr (Or.inr ⟨rfl, by omega, ?_, by omega, by omega, fun h => by omega⟩))
    rcases k with k | k <;> omega
  · exact Or.inr (Or.inr (Or.inl ⟨rfl, rfl, rfl⟩))

theorem Prt.in {w e f P Q b K X S : Int} (k : Kd w e f P Q b) (h : Prt f P Q b K X S) : -1200 ≤ X ∧ X ≤ 1100 ∧ 0 ≤ S ∧ S < 2 * P ∧ S < 9007199254740992 := by
  unfold Prt at h
  rcases k with ⟨-, -, rfl, rfl, rfl, rfl⟩ | ⟨-, -, rfl, rfl, rfl, rfl⟩ <;> omega
theorem Prt.mag0 {f P Q b K X S : Int} (h : Prt f P Q b K X S) (hK : K ≠ 1) : mag X S = 0 := by
  have : S = 0 := by
    unfold Prt at h
    omega
  subst this
  exact Nat.zero_mul _
theorem Prt.mag1 {f P Q b X S : Int} (h : Prt f P Q b 1 X S) : 0 < mag X S := by
  have : 0 < S := by
    unfold Prt at h
    omega
  exact Nat.mul_pos (by omega) (Nat.two_pow_pos _)
theorem num_mag {X : Int} (S : Int) (h0 : -1200 ≤ X) (h1 : X ≤ 1100) : num S.toNat false (cap X) = mag X S := by
  rw [cap_id (by omega) (by omega), num_plain _ _ (by omega)]
  rfl
theorem narrow_rd {w e f P Q b K X S : Int} (k : Kd w e f P Q b) (n : Bool) (h : Prt f P Q b K X S) :
    narrowN f P Q b n K X S = if K = 0 then put f P Q n 0 0 else if K = 1 then rd f P Q b n (mag X S) else if K = 2 then put f P Q n (Q - 1) 0 else put f P Q false (Q - 1) (P / 2) := by
  obtain ⟨a, c, _⟩ := h.in k
  unfold narrowN rd
  rw [num_mag S a c]
  have hK : K = 0 ∨ K = 1 ∨ K = 2 ∨ K = 3 := by unfold Prt at h; omega
  rcases hK with rfl | rfl | rfl | rfl <;> simp

theorem rd_zero {w e f P Q b : Int} (k : Kd w e f P Q b) (n : Bool) : rd f P Q b n 0 = put f P Q n 0 0 := by
  unfold rd
  have := k.pos
  have hq : ¬ (Q - 1) * P ≤ 0 := by
    have := Int.mul_pos (show 0 < Q - 1 by omega) (show 0 < P by omega)
    omega
  rw [code_zero]
  unfold lid fl
  rw [if_neg (show ¬ (Q - 1) * P ≤ ((0 : Nat) : Int) from hq)]
  simp

theorem pow_int {f P : Int} (h : P = ((2 ^ f.toNat : Nat) : Int)) {S : Int} (s0 : 0 ≤ S) (s1 : S < 2 * P) : S.toNat < 2 ^ (f.toNat + 1) := by
  rw [Nat.pow_succ]
  omega

/-- The lesser of two whose exponents lie far apart changes nothing. -/
theorem add_far {w e f P Q b X1 S1 X2 S2 : Int} (k : Kd w e f P Q b) (n1 n2 : Bool) (h1 : Prt f P Q b 1 X1 S1) (h2 : Prt f P Q b 1 X2 S2) (hd : 64 < X1 - X2) :
    addP f P Q b n1 1 (mag X1 S1) n2 1 (mag X2 S2) = rd f P Q b n1 (mag X1 S1) := by
  obtain ⟨hP, f0, f1, l0, l1, b0, b1⟩ := k.pow
  have g1 : 1 - b - f ≤ X1 ∧ X1 ≤ Q - 2 - b - f ∧ 0 < S1 ∧ S1 < 2 * P ∧ (1 - b - f < X1 → P ≤ S1) := by unfold Prt at h1; omega
  have g2 : 1 - b - f ≤ X2 ∧ X2 ≤ Q - 2 - b - f ∧ 0 < S2 ∧ S2 < 2 * P ∧ (1 - b - f < X2 → P ≤ S2) := by unfold Prt at h2; omega
  obtain ⟨a1, a2, a3, a4, a5⟩ := g1
  obtain ⟨c1, c2, c3, c4, c5⟩ := g2
  have hS1 := pow_int hP (by omega) a4
  have hS2 := pow_int hP (by omega) c4
  have hs1 : 2 ^ f.toNat ≤ S1.toNat := by have := a5 (by omega); omega
  have hr : 4 * mag X2 S2 < 2 ^ (X1 + 5000).toNat := by
    unfold mag
    have h3 : S2.toNat * 2 ^ (X2 + 5000).toNat < 2 ^ (f.toNat + 1) * 2 ^ (X2 + 5000).toNat := Nat.mul_lt_mul_of_pos_right hS2 (Nat.two_pow_pos _)
    rw [← Nat.pow_add] at h3
    have h4 : 2 ^ 2 * 2 ^ (f.toNat + 1 + (X2 + 5000).toNat) ≤ 2 ^ (X1 + 5000).toNat := by
      rw [← Nat.pow_add]
      exact Nat.pow_le_pow_right (by omega) (by omega)
    omega
  have hL : lowN f b < (X1 + 5000).toNat := by unfold lowN; omega
  have hlt : mag X2 S2 < mag X1 S1 := by
    have : 1 * 2 ^ (X1 + 5000).toNat ≤ S1.toNat * 2 ^ (X1 + 5000).toNat := Nat.mul_le_mul_right _ (by omega)
    have e : mag X1 S1 = S1.toNat * 2 ^ (X1 + 5000).toNat := rfl
    omega
  unfold addP
  rw [if_neg (by omega), if_neg (by omega), if_neg (by omega)]
  unfold rd
  by_cases hn : n1 = n2
  · rw [if_pos hn]
    have := code_far_up f.toNat (lowN f b) S1.toNat (X1 + 5000).toNat (mag X2 S2) hS1 hs1 hL hr
    rw [show mag X1 S1 = S1.toNat * 2 ^ (X1 + 5000).toNat from rfl, this]
  · rw [if_neg hn, if_neg (by omega), if_neg (by omega)]
    have := code_far_dn f.toNat (lowN f b) S1.toNat (X1 + 5000).toNat (mag X2 S2) hS1 hs1 hL hr
    rw [show mag X1 S1 = S1.toNat * 2 ^ (X1 + 5000).toNat from rfl, this]

theorem add_comm {f P Q b : Int} (n1 n2 : Bool) (K1 K2 : Int) (M1 M2 : Nat) : addP f P Q b n1 K1 M1 n2 K2 M2 = addP f P Q b n2 K2 M2 n1 K1 M1 := by
  unfold addP
  by_cases h3 : K1 = 3 ∨ K2 = 3 ∨ (K1 = 2 ∧ K2 = 2 ∧ n1 ≠ n2)
  · rw [if_pos h3, if_pos (by
      rcases h3 with h | h | ⟨h1, h2, h⟩
      · exact Or.inr (Or.inl h)
      · exact Or.inl h
      · exact Or.inr (Or.inr ⟨h2, h1, fun he => h he.symm⟩))]
  · have h3' : ¬ (K2 = 3 ∨ K1 = 3 ∨ (K2 = 2 ∧ K1 = 2 ∧ n2 ≠ n1)) := fun h => h3 (by
      rcases h with h | h | ⟨h1, h2, h⟩
      · exact Or.inr (Or.inl h)
      · exact Or.inl h
      · exact Or.inr (Or.inr ⟨h2, h1, fun he => h he.symm⟩))
    rw [if_neg h3, if_neg h3']
    by_cases ka : K1 = 2
    · rw [if_pos ka]
      by_cases kb : K2 = 2
      · rw [if_pos kb]
        have : n1 = n2 := Decidable.byContradiction fun hn => h3 (Or.inr (Or.inr ⟨ka, kb, hn⟩))
        rw [this]
      · rw [if_neg kb, if_pos ka]
    · rw [if_neg ka]
      by_cases kb : K2 = 2
      · rw [if_pos kb, if_pos kb]
      · rw [if_neg kb, if_neg kb, if_neg ka]
        by_cases hn : n1 = n2
        · subst hn
          rw [if_pos rfl, if_pos rfl, Nat.add_comm]
        · rw [if_neg hn, if_neg (fun h : n2 = n1 => hn h.symm)]
          by_cases hM : M1 = M2
          · rw [if_pos hM, if_pos hM.symm]
          · rw [if_neg hM, if_neg (fun h : M2 = M1 => hM h.symm)]
            by_cases hl : M1 < M2
            · rw [if_pos hl, if_neg (by omega)]
            · rw [if_neg hl, if_pos (by omega)]

/-- The greater one, moved up, is no more than 128 bits long; both at the lesser one's exponent. -/
theorem al_mag {X1 S1 X2 : Int} (h0 : -1200 ≤ X2) (h : X2 ≤ X1) : S1.toNat * 2 ^ (X1 - X2).toNat * 2 ^ (X2 + 5000).toNat = mag X1 S1 := by
  unfold mag
  rw [Nat.mul_assoc, ← Nat.pow_add, show (X1 - X2).toNat + (X2 + 5000).toNat = (X1 + 5000).toNat by omega]
theorem al_small {S1 : Int} {d : Int} (s0 : 0 ≤ S1) (s1 : S1 < 9007199254740992) (d1 : d ≤ 64) : S1.toNat * 2 ^ d.toNat < 166153499473114484112975882535043072 := by
  have h1 : 2 ^ d.toNat ≤ 2 ^ 64 := Nat.pow_le_pow_right (by omega) (by omega)
  have h2 : S1.toNat * 2 ^ d.toNat ≤ S1.toNat * 2 ^ 64 := Nat.mul_le_mul_left _ h1
  omega
theorem shl_al {S1 : Int} {d : Int} (s0 : 0 ≤ S1) (s1 : S1 < 9007199254740992) (d1 : d ≤ 64) : shlN S1.toNat d = S1.toNat * 2 ^ d.toNat := by
  have := al_small s0 s1 d1
  unfold shlN
  exact Nat.mod_eq_of_lt (by omega)
theorem pack_at {w e f P Q b E : Int} (k : Kd w e f P Q b) (n : Bool) (v : Nat) (hv : W2 v) (h0 : -1200 ≤ E) (h1 : E ≤ 1100) (W : World) :
    Calls Tryz.prog 160 #[.int .i64 w, .bool n, .agg #[.int .u64 (hi v), .int .u64 (lo v)], .int .i64 E, .bool false] W fun r W' => r = .returned (.int .u64 (rd f P Q b n (v * 2 ^ (E + 5000).toNat))) ∧ Below W.heap.size W W' := by
  have := pack_known v n false E k hv W
  rw [cap_id (by omega) (by omega), num_plain _ _ (by omega)] at this
  exact this

/-- Both at one exponent: their sum, rounded. -/
theorem aligned_any {w e f P Q b E : Int} (k : Kd w e f P Q b) (n1 n2 : Bool) (v u : Nat) (hv : v < 166153499473114484112975882535043072) (hu : u < 166153499473114484112975882535043072) (h0 : -1200 ≤ E) (h1 : E ≤ 1100) (W : World) :
    Calls Tryz.prog 269 #[.int .i64 w, .bool n1, .agg #[.int .u64 (hi v), .int .u64 (lo v)], .bool n2, .agg #[.int .u64 (hi u), .int .u64 (lo u)], .int .i64 E] W fun r W' => r = .returned (.int .u64 (addP f P Q b n1 1 (v * 2 ^ (E + 5000).toNat) n2 1 (u * 2 ^ (E + 5000).toNat))) ∧ Below W.heap.size W W' := by
  have hp := Nat.two_pow_pos (E + 5000).toNat
  unfold addP
  rw [if_neg (by omega), if_neg (by omega), if_neg (by omega)]
  by_cases hn : n1 = n2
  · rw [if_pos hn, ← Nat.add_mul]
    have ha := fun W => add_n v u W
    rw [show addN v u = v + u from Nat.mod_eq_of_lt (by omega)] at ha
    exact aligned_same W (by simp [hn]) (hide ha) (hide (fun W => pack_at k n1 (v + u) (by unfold W2; omega) h0 h1 W))
  · rw [if_neg hn]
    have hn' : (n1 == n2) = false := by simp [hn]
    have hc := fun W => cmp_n v u W
    by_cases he : v = u
    · subst he
      rw [if_pos rfl]
      rw [show cmpN v v = 0 by unfold cmpN; rw [if_neg (by omega), if_neg (by omega)]] at hc
      exact aligned_eq W hn' (hide hc) (hide (fun W => zero_any false k.wd W))
    · rw [if_neg (fun h => he (Nat.eq_of_mul_eq_mul_right hp h))]
      by_cases hl : v < u
      · rw [if_pos (Nat.mul_lt_mul_of_pos_right hl hp), ← Nat.sub_mul]
        rw [show cmpN v u = -1 by unfold cmpN; rw [if_pos hl]] at hc
        have ha := fun W => sub_n u v W (by unfold W2; omega)
        rw [show subN u v = u - v by unfold subN; omega] at ha
        exact aligned_lt W hn' (hide hc) (hide ha) (hide (fun W => pack_at k n2 (u - v) (by unfold W2; omega) h0 h1 W))
      · rw [if_neg (fun h => hl (Nat.lt_of_mul_lt_mul_right h)), ← Nat.sub_mul]
        rw [show cmpN v u = 1 by unfold cmpN; rw [if_neg hl, if_pos (by omega)]] at hc
        have ha := fun W => sub_n v u W (by unfold W2; omega)
        rw [show subN v u = v - u by unfold subN; omega] at ha
        exact aligned_gt W hn' (hide hc) (hide ha) (hide (fun W => pack_at k n1 (v - u) (by unfold W2; omega) h0 h1 W))

theorem narrow_1 {w e f P Q b X S : Int} (k : Kd w e f P Q b) (n : Bool) (h : Prt f P Q b 1 X S) (W : World) :
    Calls Tryz.prog 170 #[.int .i64 w, .agg #[.bool n, .int .i64 1, .int .i64 X, .int .u64 S]] W fun r W' => r = .returned (.int .u64 (rd f P Q b n (mag X S))) ∧ Below W.heap.size W W' := by
  obtain ⟨_, _, s0, _, s1⟩ := h.in k
  have := narrow_any k n 1 X S s0 (by omega) W
  rw [narrow_rd k n h] at this
  exact this
theorem left_d {S1 d : Int} (s0 : 0 ≤ S1) (s1 : S1 < 9007199254740992) (d1 : d ≤ 64) (W : World) :
    Calls Tryz.prog 234 #[.agg #[.int .u64 (hi S1.toNat), .int .u64 (lo S1.toNat)], .int .i64 d] W fun r W' => r = .returned (.agg #[.int .u64 (hi (S1.toNat * 2 ^ d.toNat)), .int .u64 (lo (S1.toNat * 2 ^ d.toNat))]) ∧ Below W.heap.size W W' := by
  have := left_n S1.toNat d W (by unfold W2; omega)
  rw [shl_al s0 s1 d1] at this
  exact this
theorem finite_any {w e f P Q b X1 S1 X2 S2 : Int} (k : Kd w e f P Q b) (n1 n2 : Bool) (h1 : Prt f P Q b 1 X1 S1) (h2 : Prt f P Q b 1 X2 S2) (W : World) :
    Calls Tryz.prog 239 #[.int .i64 w, .agg #[.bool n1, .int .i64 1, .int .i64 X1, .int .u64 S1], .agg #[.bool n2, .int .i64 1, .int .i64 X2, .int .u64 S2]] W fun r W' => r = .returned (.int .u64 (addP f P Q b n1 1 (mag X1 S1) n2 1 (mag X2 S2))) ∧ Below W.heap.size W W' := by
  obtain ⟨x0, x1, s0, -, s1⟩ := h1.in k
  obtain ⟨y0, y1, t0, -, t1⟩ := h2.in k
  by_cases hx : X1 < X2
  · rw [add_comm]
    by_cases hd : 64 < X2 - X1
    · rw [add_far k n2 n1 h2 h1 hd]
      exact finite_far_s W hx (i64_id (by omega) (by omega)) hd (hide (fun W => narrow_1 k n2 h2 W))
    · rw [← al_mag (X1 := X2) (S1 := S2) (X2 := X1) x0 (by omega)]
      exact finite_al_s W hx (i64_id (by omega) (by omega)) hd (hide (fun W => of_n S2 W t0 (by omega))) (hide (fun W => left_d t0 t1 (by omega) W)) (hide (fun W => of_n S1 W s0 (by omega)))
        (hide (fun W => aligned_any k n2 n1 _ _ (al_small t0 t1 (by omega)) (by omega) x0 x1 W))
  · by_cases hd : 64 < X1 - X2
    · rw [add_far k n1 n2 h1 h2 hd]
      exact finite_far W hx (i64_id (by omega) (by omega)) hd (hide (fun W => narrow_1 k n1 h1 W))
    · rw [← al_mag (X1 := X1) (S1 := S1) (X2 := X2) y0 (by omega)]
      exact finite_al W hx (i64_id (by omega) (by omega)) hd (hide (fun W => of_n S1 W s0 (by omega))) (hide (fun W => left_d s0 s1 (by omega) W)) (hide (fun W => of_n S2 W t0 (by omega)))
        (hide (fun W => aligned_any k n1 n2 _ _ (al_small s0 s1 (by omega)) (by omega) y0 y1 W))

theorem plus_any {w e f P Q b K1 X1 S1 K2 X2 S2 : Int} (k : Kd w e f P Q b) (n1 n2 : Bool) (h1 : Prt f P Q b K1 X1 S1) (h2 : Prt f P Q b K2 X2 S2) (W : World) :
    Calls Tryz.prog 162 #[.int .i64 w, .agg #[.bool n1, .int .i64 K1, .int .i64 X1, .int .u64 S1], .agg #[.bool n2, .int .i64 K2, .int .i64 X2, .int .u64 S2]] W fun r W' => r = .returned (.int .u64 (addP f P Q b n1 K1 (mag X1 S1) n2 K2 (mag X2 S2))) ∧ Below W.heap.size W W' := by
  obtain ⟨-, -, s0, -, s1⟩ := h1.in k
  obtain ⟨-, -, t0, -, t1⟩ := h2.in k
  have hK1 : K1 = 0 ∨ K1 = 1 ∨ K1 = 2 ∨ K1 = 3 := by unfold Prt at h1; omega
  have hK2 : K2 = 0 ∨ K2 = 1 ∨ K2 = 2 ∨ K2 = 3 := by unfold Prt at h2; omega
  by_cases hk : K1 = K2
  · subst hk
    have hk' := ne_f (rfl : K1 = K1)
    rcases hK1 with rfl | rfl | rfl | rfl
    · rw [h1.mag0 (by omega), h2.mag0 (by omega)]
      have e : addP f P Q b n1 0 0 n2 0 0 = put f P Q (n1 && n2) 0 0 := by
        unfold addP
        rw [if_neg (by omega), if_neg (by omega), if_neg (by omega)]
        by_cases hn : n1 = n2
        · subst hn
          rw [if_pos rfl, Nat.add_zero, rd_zero k]
          simp
        · rw [if_neg hn, if_pos rfl]
          cases n1 <;> cases n2 <;> simp_all
      rw [e]
      cases n1
      · exact plus_zf W hk' (by simp) (hide (fun W => zero_any false k.wd W))
      · exact plus_zt W hk' (by simp) (hide (fun W => zero_any n2 k.wd W))
    · exact plus_fi W hk' (by simp) (by simp) (by simp) (hide (fun W => finite_any k n1 n2 h1 h2 W))
    · unfold addP
      by_cases hn : n1 = n2
      · rw [if_neg (by
          rintro (h | h | ⟨_, _, h⟩)
          · omega
          · omega
          · exact h hn), if_pos rfl]
        exact plus_is W hk' (by simp) (by simp) (by simp [hn]) (hide (fun W => inf_any n1 k.wd W))
      · rw [if_pos (Or.inr (Or.inr ⟨rfl, rfl, hn⟩))]
        exact plus_id W hk' (by simp) (by simp) (by simp [hn]) (hide (fun W => nan_any k.wd W))
    · unfold addP
      rw [if_pos (Or.inl rfl)]
      exact plus_na W hk' (by simp) (by simp) (by simp) (hide (fun W => nan_any k.wd W))
  · have hk' := ne_t hk
    by_cases hl : K1 < K2
    · have e : addP f P Q b n1 K1 (mag X1 S1) n2 K2 (mag X2 S2) = narrowN f P Q b n2 K2 X2 S2 := by
        rw [narrow_rd k n2 h2, if_neg (by omega)]
        unfold addP
        by_cases h3 : K2 = 3
        · rw [if_pos (Or.inr (Or.inl h3)), if_neg (by omega), if_neg (by omega)]
        · rw [if_neg (by omega), if_neg (by omega)]
          by_cases hi : K2 = 2
          · rw [if_pos hi, if_neg (by omega), if_pos hi]
          · have hK : K2 = 1 := by omega
            subst hK
            have hp := h2.mag1
            rw [if_neg hi, h1.mag0 (by omega), if_pos (rfl : (1 : Int) = 1)]
            by_cases hn : n1 = n2
            · rw [if_pos hn, hn, Nat.zero_add]
            · rw [if_neg hn, if_neg (show ¬ 0 = mag X2 S2 by omega), if_pos hp, Nat.sub_zero]
      rw [e]
      exact plus_lt W hk' hl (hide (fun W => narrow_any k n2 K2 X2 S2 t0 (by omega) W))
    · have e : addP f P Q b n1 K1 (mag X1 S1) n2 K2 (mag X2 S2) = narrowN f P Q b n1 K1 X1 S1 := by
        rw [add_comm, narrow_rd k n1 h1, if_neg (by omega)]
        unfold addP
        by_cases h3 : K1 = 3
        · rw [if_pos (Or.inr (Or.inl h3)), if_neg (by omega), if_neg (by omega)]
        · rw [if_neg (by omega), if_neg (by omega)]
          by_cases hi : K1 = 2
          · rw [if_pos hi, if_neg (by omega), if_pos hi]
          · have hK : K1 = 1 := by omega
            subst hK
            have hp := h1.mag1
            rw [if_neg hi, h2.mag0 (by omega), if_pos (rfl : (1 : Int) = 1)]
            by_cases hn : n2 = n1
            · rw [if_pos hn, hn, Nat.zero_add]
            · rw [if_neg hn, if_neg (show ¬ 0 = mag X1 S1 by omega), if_pos hp, Nat.sub_zero]
      rw [e]
      exact plus_ge W hk' hl (hide (fun W => narrow_any k n1 K1 X1 S1 s0 (by omega) W))

end Go.Proofs.YtpbgpdmffejdgaaGreatDoor
namespace Go.Proofs.YtpbgpdmffejdgaaGreatDoor
open Go.RowKit
open Go.Proofs.YtpbgpdmffejdgaaGreatDoor.W

/-- A float's bits without the sign, as a number. -/
def oc (P Q x : Int) : Nat := (x / P % Q * P + x % P).toNat
/-- Its kind. -/
def oK (P Q x : Int) : Int := if x / P % Q = Q - 1 then (if x % P = 0 then 2 else 3) else if x / P % Q = 0 ∧ x % P = 0 then 0 else 1
/-- Its sign. -/
def oN (P Q x : Int) : Bool := if x / P % Q = Q - 1 ∧ x % P ≠ 0 then false else sg P Q x
/-- Its number, 5000 bits up. -/
def oM (f P Q b x : Int) : Nat := if x / P % Q = Q - 1 then 0 else fval f.toNat (lowN f b) (oc P Q x)
/-- The sum of two floats. -/
def addB (f P Q b x y : Int) : Int := addP f P Q b (oN P Q x) (oK P Q x) (oM f P Q b x) (oN P Q y) (oK P Q y) (oM f P Q b y)
/-- The difference of two floats. -/
def subB (f P Q b x y : Int) : Int := addP f P Q b (oN P Q x) (oK P Q x) (oM f P Q b x) (!oN P Q y) (oK P Q y) (oM f P Q b y)

theorem mag_zero (X : Int) : mag X 0 = 0 := by
  unfold mag
  rw [show (0 : Int).toNat = 0 from rfl, Nat.zero_mul]
theorem open_kd {w e f P Q b : Int} (k : Kd w e f P Q b) (x : Int) : ∃ X S, Opened f P Q b (sg P Q x) (x / P % Q) (x % P) (oN P Q x) (oK P Q x) X S ∧ Prt f P Q b (oK P Q x) X S ∧ mag X S = oM f P Q b x := by
  obtain ⟨p1, p2, q1, q2⟩ := k.pos
  obtain ⟨hP, f0, f1, l0, l1, b0, b1⟩ := k.pow
  obtain ⟨u, v⟩ := exp_in (x / P) (show 1 ≤ Q by omega)
  obtain ⟨u', v'⟩ := exp_in x (show 1 ≤ P by omega)
  have hf := k.f0
  unfold oM oN oK oc
  generalize x / P % Q = e at *
  generalize x % P = y at *
  generalize sg P Q x = n at *
  by_cases h1 : e = Q - 1
  · rw [if_pos h1, if_pos h1]
    by_cases h2 : y = 0
    · rw [if_pos h2, if_neg (by omega)]
      exact ⟨0, 0, Or.inr (Or.inr (Or.inl ⟨hf, h1, h2, rfl, rfl, rfl, rfl⟩)), Or.inr (Or.inl ⟨rfl, rfl, rfl⟩), mag_zero 0⟩
    · rw [if_neg h2, if_pos ⟨h1, h2⟩]
      exact ⟨0, 0, Or.inr (Or.inl ⟨hf, h1, h2, rfl, rfl, rfl, rfl⟩), Or.inl ⟨rfl, rfl, rfl⟩, mag_zero 0⟩
  · rw [if_neg h1, if_neg h1, if_neg (fun h => h1 h.1)]
    by_cases h2 : e = 0
    · by_cases h3 : y = 0
      · rw [if_pos ⟨h2, h3⟩]
        refine ⟨0, 0, Or.inr (Or.inr (Or.inr (Or.inr (Or.inr ⟨hf, h1, h2, h3, rfl, rfl, rfl, rfl⟩)))), Or.inr (Or.inr (Or.inl ⟨rfl, rfl, rfl⟩)), ?_⟩
        rw [h2, h3, Int.zero_mul, mag_zero, show ((0 : Int) + 0).toNat = 0 from rfl, fval_zero]
      · rw [if_neg (fun h => h3 h.2)]
        have ho : Opened f P Q b n e y n 1 (1 - b - f) y := Or.inr (Or.inr (Or.inr (Or.inr (Or.inl ⟨hf, h1, h2, h3, rfl, rfl, rfl, rfl⟩))))
        refine ⟨1 - b - f, y, ho, opened_prt k ho u v u' v', ?_⟩
        have hv := fval_norm f.toNat (lowN f b) y.toNat (lowN f b) (by rw [Nat.pow_succ]; omega) (Nat.le_refl _) (fun h => absurd h (Nat.lt_irrefl _))
        rw [Nat.sub_self, Nat.zero_mul, Nat.zero_add] at hv
        rw [h2, Int.zero_mul, Int.zero_add, hv]
        unfold mag
        rw [show (1 - b - f + 5000).toNat = lowN f b by unfold lowN; omega]
    · rw [if_neg (fun h => h2 h.1)]
      have ho : Opened f P Q b n e y n 1 (e - b - f) (P + y) := Or.inr (Or.inr (Or.inr (Or.inl ⟨hf, h1, h2, rfl, rfl, rfl, rfl⟩)))
      refine ⟨e - b - f, P + y, ho, opened_prt k ho u v u' v', ?_⟩
      have hk : (e - b - f + 5000).toNat = lowN f b + (e.toNat - 1) := by unfold lowN; omega
      have hv := fval_norm f.toNat (lowN f b) (P + y).toNat (lowN f b + (e.toNat - 1)) (by rw [Nat.pow_succ]; omega) (by omega) (fun _ => by omega)
      unfold mag
      rw [hk, ← hv]
      congr 1
      rw [show lowN f b + (e.toNat - 1) - lowN f b = e.toNat - 1 by omega]
      have e1 : (e * P + y).toNat = e.toNat * 2 ^ f.toNat + y.toNat := by
        have : ((e.toNat * 2 ^ f.toNat : Nat) : Int) = e * P := by
          rw [Int.natCast_mul, ← hP, Int.toNat_of_nonneg u]
        omega
      have e2 : (P + y).toNat = 2 ^ f.toNat + y.toNat := by omega
      rw [e1, e2, ← Nat.add_assoc]
      congr 1
      obtain ⟨j, hj⟩ : ∃ j, e.toNat = j + 1 := ⟨e.toNat - 1, by omega⟩
      rw [hj, Nat.add_sub_cancel, Nat.add_mul, Nat.one_mul]

theorem sumSub_any {w e f P Q b x y : Int} (k : Kd w e f P Q b) (W : World) (x0 : 0 ≤ x) (x1 : x < 18446744073709551616) (y0 : 0 ≤ y) (y1 : y < 18446744073709551616) :
    Calls Tryz.prog 86 #[.int .i64 w, .int .u64 x, .int .u64 y] W fun r W' => r = .returned (.int .u64 (subB f P Q b x y)) ∧ Below W.heap.size W W' := by
  obtain ⟨X1, S1, o1, p1, m1⟩ := open_kd k x
  obtain ⟨X2, S2, o2, p2, m2⟩ := open_kd k y
  have HP := hide (fun W => plus_any k (oN P Q x) (!oN P Q y) p1 p2 W)
  unfold subB
  rw [m1, m2] at HP
  exact sumSub_l W (hide (fun W => open_any x k.wd W x0 x1 o1)) (hide (fun W => open_any y k.wd W y0 y1 o2)) HP

theorem sumAdd_any {w e f P Q b x y : Int} (k : Kd w e f P Q b) (W : World) (x0 : 0 ≤ x) (x1 : x < 18446744073709551616) (y0 : 0 ≤ y) (y1 : y < 18446744073709551616) :
    Calls Tryz.prog 85 #[.int .i64 w, .int .u64 x, .int .u64 y] W fun r W' => r = .returned (.int .u64 (addB f P Q b x y)) ∧ Below W.heap.size W W' := by
  obtain ⟨X1, S1, o1, p1, m1⟩ := open_kd k x
  obtain ⟨X2, S2, o2, p2, m2⟩ := open_kd k y
  have HP := hide (fun W => plus_any k (oN P Q x) (oN P Q y) p1 p2 W)
  unfold addB
  rw [m1, m2] at HP
  exact sumAdd_l W (hide (fun W => open_any x k.wd W x0 x1 o1)) (hide (fun W => open_any y k.wd W y0 y1 o2)) HP
end Go.Proofs.YtpbgpdmffejdgaaGreatDoor
namespace Go.Proofs.YtpbgpdmffejdgaaGreatDoor
open Go.RowKit
open Go.Proofs.YtpbgpdmffejdgaaGreatDoor.W

theorem put_in {w e f P Q b x y : Int} {n : Bool} (h : Kd w e f P Q b) (x0 : 0 ≤ x) (x1 : x < Q) (y0 : 0 ≤ y) (y1 : y < P) :
    0 ≤ put f P Q n x y ∧ put f P Q n x y < 18446744073709551616 ∧ sg P Q (put f P Q n x y) = n ∧ put f P Q n x y / P % Q = x ∧ put f P Q n x y % P = y := by
  unfold sg
  cases n
  · rw [put_no h.f0]
    rcases h with ⟨-, -, -, rfl, rfl, -⟩ | ⟨-, -, -, rfl, rfl, -⟩
    · refine ⟨by omega, by omega, ?_, by omega, by omega⟩
      show ((x * 8388608 + y) / 2147483648 % 2 == 1) = false
      exact eq_f (by omega)
    · refine ⟨by omega, by omega, ?_, by omega, by omega⟩
      show ((x * 4503599627370496 + y) / 9223372036854775808 % 2 == 1) = false
      exact eq_f (by omega)
  · rw [put_yes h.f0]
    rcases h with ⟨-, -, -, rfl, rfl, -⟩ | ⟨-, -, -, rfl, rfl, -⟩
    · refine ⟨by omega, by omega, ?_, by omega, by omega⟩
      show ((x * 8388608 + y + 2147483648) / 2147483648 % 2 == 1) = true
      exact eq_t (by omega)
    · refine ⟨by omega, by omega, ?_, by omega, by omega⟩
      show ((x * 4503599627370496 + y + 9223372036854775808) / 9223372036854775808 % 2 == 1) = true
      exact eq_t (by omega)

/-- The infinite one's code. -/
def top (P Q : Int) : Int := (Q - 1) * P
theorem top_pos {w e f P Q b : Int} (k : Kd w e f P Q b) : 0 < top P Q := by
  unfold top
  rcases k with ⟨-, -, -, rfl, rfl, -⟩ | ⟨-, -, -, rfl, rfl, -⟩ <;> omega
/-- The canonical NaN. -/
def nanB (f P Q : Int) : Int := put f P Q false (Q - 1) (P / 2)

theorem code_parts {w e f P Q b c : Int} (k : Kd w e f P Q b) (c0 : 0 ≤ c) (c1 : c ≤ top P Q) : 0 ≤ c / P ∧ c / P < Q ∧ 0 ≤ c % P ∧ c % P < P ∧ c / P * P + c % P = c ∧ (c / P = Q - 1 ↔ c = top P Q) ∧ (c = top P Q → c % P = 0) := by
  unfold top at *
  rcases k with ⟨-, -, -, rfl, rfl, -⟩ | ⟨-, -, -, rfl, rfl, -⟩ <;> (refine ⟨?_, ?_, ?_, ?_, ?_, ?_, ?_⟩ <;> omega)

/-- A float's own code, sign and kind. -/
theorem fl_facts {w e f P Q b c : Int} (k : Kd w e f P Q b) (n : Bool) (c0 : 0 ≤ c) (c1 : c ≤ top P Q) :
    0 ≤ fl f P Q n c ∧ fl f P Q n c < 18446744073709551616 ∧ ((oc P Q (fl f P Q n c) : Nat) : Int) = c ∧ oN P Q (fl f P Q n c) = n ∧ cutN f P Q (fl f P Q n c) = fl f P Q n c ∧ (fl f P Q n c / P % Q == Q - 1 && fl f P Q n c % P != 0) = false := by
  obtain ⟨a0, a1, d0, d1, he, ht, hz⟩ := code_parts k c0 c1
  have hf : fl f P Q n c = put f P Q n (c / P) (c % P) := rfl
  obtain ⟨r0, r1, r2, r3, r4⟩ := put_in (n := n) k a0 a1 d0 d1
  rw [← hf] at r0 r1 r2 r3 r4
  refine ⟨r0, r1, ?_, ?_, ?_, ?_⟩
  · unfold oc
    rw [r3, r4, he, Int.toNat_of_nonneg c0]
  · unfold oN
    rw [r2, r3, r4, if_neg (fun h => h.2 (hz (ht.1 h.1)))]
  · rw [← cut_put k.wd.sz, r2, r3, r4]
    exact hf.symm
  · rw [r3, r4]
    by_cases h : c = top P Q
    · simp [hz h]
    · rw [eq_f (fun h' => h (ht.1 h'))]
      rfl
theorem nan_facts {w e f P Q b : Int} (k : Kd w e f P Q b) :
    0 ≤ nanB f P Q ∧ nanB f P Q < 18446744073709551616 ∧ oK P Q (nanB f P Q) = 3 ∧ cutN f P Q (nanB f P Q) = nanB f P Q ∧ (nanB f P Q / P % Q == Q - 1 && nanB f P Q % P != 0) = true := by
  obtain ⟨p1, p2, q1, q2⟩ := k.pos
  have h2 : P / 2 ≠ 0 := by omega
  obtain ⟨r0, r1, r2, r3, r4⟩ := put_in (x := Q - 1) (y := P / 2) (n := false) k (by omega) (by omega) (by omega) (by omega)
  unfold nanB
  refine ⟨r0, r1, ?_, ?_, ?_⟩
  · unfold oK
    rw [r3, r4, if_pos rfl, if_neg h2]
  · rw [← cut_put k.wd.sz, r2, r3, r4]
  · rw [r3, r4]
    simp [h2]

/-- A float by its code. -/
theorem kind_oc {w e f P Q b : Int} (k : Kd w e f P Q b) (x : Int) :
    (oK P Q x = 3 ∧ top P Q < oc P Q x ∧ oN P Q x = false) ∨ (oK P Q x = 2 ∧ (oc P Q x : Int) = top P Q ∧ oM f P Q b x = 0) ∨
    (oK P Q x = 1 ∧ 0 < oc P Q x ∧ (oc P Q x : Int) < top P Q ∧ oM f P Q b x = fval f.toNat (lowN f b) (oc P Q x)) ∨ (oK P Q x = 0 ∧ oc P Q x = 0 ∧ oM f P Q b x = 0) := by
  obtain ⟨p1, p2, q1, q2⟩ := k.pos
  obtain ⟨u, v⟩ := exp_in (x / P) (show 1 ≤ Q by omega)
  obtain ⟨u', v'⟩ := exp_in x (show 1 ≤ P by omega)
  unfold oM oN oK
  have hc : ((oc P Q x : Nat) : Int) = x / P % Q * P + x % P := by
    unfold oc
    have := Int.mul_nonneg u (show 0 ≤ P by omega)
    omega
  have hz := fval_zero f.toNat (lowN f b)
  generalize oc P Q x = c at *
  generalize x / P % Q = e at *
  generalize x % P = y at *
  generalize sg P Q x = n at *
  by_cases h1 : e = Q - 1
  · rw [if_pos h1, if_pos h1]
    by_cases h2 : y = 0
    · rw [if_pos h2]
      refine Or.inr (Or.inl ⟨rfl, ?_, rfl⟩)
      rw [hc, h1, h2]
      unfold top
      omega
    · rw [if_neg h2, if_pos ⟨h1, h2⟩]
      refine Or.inl ⟨rfl, ?_, rfl⟩
      rw [hc, h1]
      unfold top
      omega
  · rw [if_neg h1, if_neg h1]
    by_cases h2 : e = 0 ∧ y = 0
    · rw [if_pos h2]
      have : c = 0 := by
        rw [h2.1, h2.2] at hc
        omega
      subst this
      exact Or.inr (Or.inr (Or.inr ⟨rfl, rfl, hz⟩))
    · rw [if_neg h2]
      refine Or.inr (Or.inr (Or.inl ⟨rfl, ?_, ?_, rfl⟩))
      · rcases k with ⟨-, -, -, rfl, rfl, -⟩ | ⟨-, -, -, rfl, rfl, -⟩ <;> omega
      · unfold top
        rcases k with ⟨-, -, -, rfl, rfl, -⟩ | ⟨-, -, -, rfl, rfl, -⟩ <;> omega
theorem oM_fin {w e f P Q b : Int} (k : Kd w e f P Q b) {x : Int} (h : oK P Q x ≠ 3 ∧ oK P Q x ≠ 2) : oM f P Q b x = fval f.toNat (lowN f b) (oc P Q x) ∧ (oc P Q x : Int) < top P Q := by
  have ht := top_pos k
  rcases kind_oc k x with ⟨h1, _⟩ | ⟨h1, _⟩ | ⟨_, _, h2, h3⟩ | ⟨_, h2, h3⟩
  · exact absurd h1 h.1
  · exact absurd h1 h.2
  · exact ⟨h3, h2⟩
  · rw [h2, h3, fval_zero]
    exact ⟨rfl, ht⟩
/-- What a float's bits are by its sign and its code. -/
theorem cut_fl {w e f P Q b : Int} (k : Kd w e f P Q b) {x : Int} (h : oK P Q x ≠ 3) : cutN f P Q x = fl f P Q (oN P Q x) (oc P Q x : Int) := by
  obtain ⟨p1, p2, q1, q2⟩ := k.pos
  obtain ⟨u, v⟩ := exp_in (x / P) (show 1 ≤ Q by omega)
  obtain ⟨u', v'⟩ := exp_in x (show 1 ≤ P by omega)
  rw [← cut_put k.wd.sz]
  have hn : oN P Q x = sg P Q x := by
    unfold oN
    unfold oK at h
    by_cases h1 : x / P % Q = Q - 1
    · rw [if_pos h1] at h
      by_cases h2 : x % P = 0
      · rw [if_neg (fun h' => h'.2 h2)]
      · rw [if_neg h2] at h
        exact absurd rfl h
    · rw [if_neg (fun h' => h1 h'.1)]
  have hc : ((oc P Q x : Nat) : Int) = x / P % Q * P + x % P := by
    unfold oc
    have := Int.mul_nonneg u (show 0 ≤ P by omega)
    omega
  unfold fl
  rw [hn, hc]
  generalize x / P % Q = e at *
  generalize x % P = y at *
  congr 1
  · rw [Int.add_comm, Int.add_mul_ediv_right _ _ (by omega), Int.ediv_eq_zero_of_lt u' v', Int.zero_add]
  · rw [Int.add_comm, Int.add_mul_emod_self_right, Int.emod_eq_of_lt u' v']

theorem lid_top {w e f P Q b : Int} (k : Kd w e f P Q b) (c : Nat) : 0 ≤ lid P Q c ∧ lid P Q c ≤ top P Q := lid_in k c
theorem put_inf {w e f P Q b : Int} (k : Kd w e f P Q b) (n : Bool) : put f P Q n (Q - 1) 0 = fl f P Q n (top P Q) := by
  have ht := top_pos k
  obtain ⟨_, _, _, _, _, h1, h2⟩ := code_parts k (Int.le_of_lt ht) (Int.le_refl _)
  unfold fl
  rw [h1.2 rfl, h2 rfl]
theorem put_nought {f P Q : Int} (n : Bool) : put f P Q n 0 0 = fl f P Q n 0 := by
  unfold fl
  simp
/-- What a sum is: the canonical NaN, or a float. -/
theorem add_form {w e f P Q b : Int} (k : Kd w e f P Q b) (n1 n2 : Bool) (K1 K2 : Int) (M1 M2 : Nat) :
    addP f P Q b n1 K1 M1 n2 K2 M2 = nanB f P Q ∨ ∃ n c, 0 ≤ c ∧ c ≤ top P Q ∧ addP f P Q b n1 K1 M1 n2 K2 M2 = fl f P Q n c := by
  have ht := top_pos k
  unfold addP
  split
  · exact Or.inl rfl
  refine Or.inr ?_
  split
  · exact ⟨_, _, Int.le_of_lt ht, Int.le_refl _, put_inf k _⟩
  split
  · exact ⟨_, _, Int.le_of_lt ht, Int.le_refl _, put_inf k _⟩
  split
  · exact ⟨_, _, (lid_top k _).1, (lid_top k _).2, rfl⟩
  split
  · exact ⟨_, _, Int.le_refl _, Int.le_of_lt ht, put_nought _⟩
  split
  · exact ⟨_, _, (lid_top k _).1, (lid_top k _).2, rfl⟩
  · exact ⟨_, _, (lid_top k _).1, (lid_top k _).2, rfl⟩

/-- A float's number is rounded to itself. -/
theorem rd_val {w e f P Q b : Int} (_ : Kd w e f P Q b) (n : Bool) {c : Nat} (h : (c : Int) < top P Q) : rd f P Q b n (fval f.toNat (lowN f b) c) = fl f P Q n c := by
  unfold rd
  rw [fval_code]
  unfold lid
  rw [if_neg (show ¬ (Q - 1) * P ≤ (c : Int) by unfold top at h; omega)]

/-- A float less itself. -/
theorem sub_self {w e f P Q b : Int} (k : Kd w e f P Q b) {x : Int} : (oK P Q x = 2 → subB f P Q b x x = nanB f P Q) ∧ (oK P Q x ≠ 2 → oK P Q x ≠ 3 → subB f P Q b x x = 0) := by
  unfold subB addP
  refine ⟨fun h => ?_, fun h h3 => ?_⟩
  · rw [if_pos (Or.inr (Or.inr ⟨h, h, by cases oN P Q x <;> simp⟩))]
    rfl
  · rw [if_neg (by omega), if_neg h, if_neg h, if_neg (by cases oN P Q x <;> simp), if_pos rfl, put_no k.f0]
    omega
theorem addB_comm (f P Q b x y : Int) : addB f P Q b x y = addB f P Q b y x := add_comm _ _ _ _ _ _

end Go.Proofs.YtpbgpdmffejdgaaGreatDoor
namespace Go.Proofs.YtpbgpdmffejdgaaGreatDoor
open Go.RowKit
open Go.Proofs.YtpbgpdmffejdgaaGreatDoor.W

/-- The product of two floats that are taken apart. -/
def mulP (f P Q b : Int) (n1 : Bool) (K1 : Int) (M1 : Nat) (n2 : Bool) (K2 : Int) (M2 : Nat) : Int :=
  if K1 = 3 ∨ K2 = 3 ∨ (K1 = 2 ∧ K2 = 0) ∨ (K1 = 0 ∧ K2 = 2) then nanB f P Q
  else if K1 = 2 ∨ K2 = 2 then put f P Q (n1 != n2) (Q - 1) 0
  else rd f P Q b (n1 != n2) (M1 * M2 / 2 ^ Z5)
/-- The product of two floats. -/
def mulB (f P Q b x y : Int) : Int := mulP f P Q b (oN P Q x) (oK P Q x) (oM f P Q b x) (oN P Q y) (oK P Q y) (oM f P Q b y)

theorem mag_mul {X1 S1 X2 S2 : Int} (h1 : -1200 ≤ X1) (h2 : -1200 ≤ X2) : mag X1 S1 * mag X2 S2 / 2 ^ Z5 = S1.toNat * S2.toNat * 2 ^ (X1 + X2 + 5000).toNat := by
  unfold mag
  have e : S1.toNat * 2 ^ (X1 + 5000).toNat * (S2.toNat * 2 ^ (X2 + 5000).toNat) = S1.toNat * S2.toNat * 2 ^ (X1 + X2 + 5000).toNat * 2 ^ Z5 := by
    rw [Nat.mul_mul_mul_comm, ← Nat.pow_add, Nat.mul_assoc _ (2 ^ (X1 + X2 + 5000).toNat), ← Nat.pow_add, show (X1 + 5000).toNat + (X2 + 5000).toNat = (X1 + X2 + 5000).toNat + Z5 by unfold Z5; omega]
  rw [e]
  exact Nat.mul_div_cancel _ (Nat.two_pow_pos Z5)
theorem mul_comm' {f P Q b : Int} (n1 n2 : Bool) (K1 K2 : Int) (M1 M2 : Nat) : mulP f P Q b n1 K1 M1 n2 K2 M2 = mulP f P Q b n2 K2 M2 n1 K1 M1 := by
  have hn : (n1 != n2) = (n2 != n1) := by cases n1 <;> cases n2 <;> rfl
  unfold mulP
  rw [hn, Nat.mul_comm]
  by_cases h : K1 = 3 ∨ K2 = 3 ∨ (K1 = 2 ∧ K2 = 0) ∨ (K1 = 0 ∧ K2 = 2)
  · rw [if_pos h, if_pos (show K2 = 3 ∨ K1 = 3 ∨ (K2 = 2 ∧ K1 = 0) ∨ (K2 = 0 ∧ K1 = 2) by omega)]
  · rw [if_neg h, if_neg (show ¬ (K2 = 3 ∨ K1 = 3 ∨ (K2 = 2 ∧ K1 = 0) ∨ (K2 = 0 ∧ K1 = 2)) by omega)]
    by_cases h2 : K1 = 2 ∨ K2 = 2
    · rw [if_pos h2, if_pos (show K2 = 2 ∨ K1 = 2 by omega)]
    · rw [if_neg h2, if_neg (show ¬ (K2 = 2 ∨ K1 = 2) by omega)]
theorem mulB_comm (f P Q b x y : Int) : mulB f P Q b x y = mulB f P Q b y x := mul_comm' _ _ _ _ _ _

/-- What a product is: the canonical NaN, or a float of that sign. -/
theorem mul_form {w e f P Q b : Int} (k : Kd w e f P Q b) (K1 K2 : Int) (M1 M2 : Nat) :
    (∀ n1 n2, mulP f P Q b n1 K1 M1 n2 K2 M2 = nanB f P Q) ∨ ∃ c, 0 ≤ c ∧ c ≤ top P Q ∧ ∀ n1 n2, mulP f P Q b n1 K1 M1 n2 K2 M2 = fl f P Q (n1 != n2) c := by
  have ht := top_pos k
  unfold mulP
  by_cases h : K1 = 3 ∨ K2 = 3 ∨ (K1 = 2 ∧ K2 = 0) ∨ (K1 = 0 ∧ K2 = 2)
  · exact Or.inl (fun _ _ => if_pos h)
  · refine Or.inr ?_
    by_cases h2 : K1 = 2 ∨ K2 = 2
    · exact ⟨_, Int.le_of_lt ht, Int.le_refl _, fun n1 n2 => by rw [if_neg h, if_pos h2]; exact put_inf k _⟩
    · exact ⟨_, (lid_top k _).1, (lid_top k _).2, fun n1 n2 => by rw [if_neg h, if_neg h2]; rfl⟩
end Go.Proofs.YtpbgpdmffejdgaaGreatDoor
namespace Go.Proofs.YtpbgpdmffejdgaaGreatDoor
open Go.RowKit
open Go.Proofs.YtpbgpdmffejdgaaGreatDoor.W

theorem pack_wide {w e f P Q b E : Int} (k : Kd w e f P Q b) (n : Bool) (v : Nat) (hv : W2 v) (h0 : -4000 ≤ E) (h1 : E ≤ 4000) (W : World) :
    Calls Tryz.prog 160 #[.int .i64 w, .bool n, .agg #[.int .u64 (hi v), .int .u64 (lo v)], .int .i64 E, .bool false] W fun r W' => r = .returned (.int .u64 (rd f P Q b n (v * 2 ^ (E + 5000).toNat))) ∧ Below W.heap.size W W' := by
  have := pack_known v n false E k hv W
  rw [cap_id (by omega) (by omega), num_plain _ _ (by omega)] at this
  exact this
theorem either_any {k K1 X1 S1 K2 X2 S2 : Int} (n1 n2 : Bool) (W : World) :
    Calls Tryz.prog 240 #[.int .i64 k, .agg #[.bool n1, .int .i64 K1, .int .i64 X1, .int .u64 S1], .agg #[.bool n2, .int .i64 K2, .int .i64 X2, .int .u64 S2]] W fun r W' => r = .returned (.bool (K1 == k || K2 == k)) ∧ Below W.heap.size W W' := by
  by_cases h : K1 = k
  · rw [eq_t h, Bool.true_or]
    exact either_t W (eq_t h)
  · rw [eq_f h, Bool.false_or]
    exact either_f W (eq_f h)
theorem or_t {K1 K2 k : Int} (h : K1 = k ∨ K2 = k) : (K1 == k || K2 == k) = true := by simpa using h
theorem or_f {K1 K2 k : Int} (h : ¬ (K1 = k ∨ K2 = k)) : (K1 == k || K2 == k) = false := by
  rw [eq_f (fun h' => h (Or.inl h')), eq_f (fun h' => h (Or.inr h'))]
  rfl
theorem sig_mul {S1 S2 : Int} (s1 : S1 < 9007199254740992) (t1 : S2 < 9007199254740992) : S1.toNat * S2.toNat < 340282366920938463463374607431768211456 := by
  have h1 : S1.toNat * S2.toNat ≤ 9007199254740992 * S2.toNat := Nat.mul_le_mul_right _ (by omega)
  omega

theorem times_any {w e f P Q b K1 X1 S1 K2 X2 S2 : Int} (k : Kd w e f P Q b) (n1 n2 : Bool) (h1 : Prt f P Q b K1 X1 S1) (h2 : Prt f P Q b K2 X2 S2) (W : World) :
    Calls Tryz.prog 163 #[.int .i64 w, .agg #[.bool n1, .int .i64 K1, .int .i64 X1, .int .u64 S1], .agg #[.bool n2, .int .i64 K2, .int .i64 X2, .int .u64 S2]] W fun r W' => r = .returned (.int .u64 (mulP f P Q b n1 K1 (mag X1 S1) n2 K2 (mag X2 S2))) ∧ Below W.heap.size W W' := by
  obtain ⟨x0, x1, s0, -, s1⟩ := h1.in k
  obtain ⟨y0, y1, t0, -, t1⟩ := h2.in k
  have hK1 : K1 = 0 ∨ K1 = 1 ∨ K1 = 2 ∨ K1 = 3 := by unfold Prt at h1; omega
  have hK2 : K2 = 0 ∨ K2 = 1 ∨ K2 = 2 ∨ K2 = 3 := by unfold Prt at h2; omega
  have H3 := fun W => either_any (k := 3) (K1 := K1) (X1 := X1) (S1 := S1) (K2 := K2) (X2 := X2) (S2 := S2) n1 n2 W
  have H2 := fun W => either_any (k := 2) (K1 := K1) (X1 := X1) (S1 := S1) (K2 := K2) (X2 := X2) (S2 := S2) n1 n2 W
  have H0 := fun W => either_any (k := 0) (K1 := K1) (X1 := X1) (S1 := S1) (K2 := K2) (X2 := X2) (S2 := S2) n1 n2 W
  by_cases a3 : K1 = 3 ∨ K2 = 3
  · rw [show mulP f P Q b n1 K1 (mag X1 S1) n2 K2 (mag X2 S2) = nanB f P Q by unfold mulP; rw [if_pos (by omega)]]
    rw [or_t a3] at H3
    exact times_nan W (hide H3) (hide (fun W => nan_any k.wd W))
  rw [or_f a3] at H3
  by_cases a2 : K1 = 2 ∨ K2 = 2
  · rw [or_t a2] at H2
    by_cases a0 : K1 = 0 ∨ K2 = 0
    · rw [show mulP f P Q b n1 K1 (mag X1 S1) n2 K2 (mag X2 S2) = nanB f P Q by unfold mulP; rw [if_pos (by omega)]]
      rw [or_t a0] at H0
      exact times_in W (hide H3) (hide H2) (hide H0) (hide (fun W => nan_any k.wd W))
    · rw [show mulP f P Q b n1 K1 (mag X1 S1) n2 K2 (mag X2 S2) = put f P Q (n1 != n2) (Q - 1) 0 by unfold mulP; rw [if_neg (by omega), if_pos a2]]
      rw [or_f a0] at H0
      exact times_inf W (hide H3) (hide H2) (hide H0) (hide (fun W => inf_any _ k.wd W))
  · rw [or_f a2] at H2
    rw [show mulP f P Q b n1 K1 (mag X1 S1) n2 K2 (mag X2 S2) = rd f P Q b (n1 != n2) (mag X1 S1 * mag X2 S2 / 2 ^ Z5) by unfold mulP; rw [if_neg (by omega), if_neg a2]]
    by_cases a0 : K1 = 0 ∨ K2 = 0
    · rw [or_t a0] at H0
      have hz : mag X1 S1 * mag X2 S2 = 0 := by
        rcases a0 with h | h
        · rw [h1.mag0 (by omega), Nat.zero_mul]
        · rw [h2.mag0 (by omega), Nat.mul_zero]
      rw [hz, Nat.zero_div, rd_zero k]
      exact times_zero W (hide H3) (hide H2) (hide H0) (hide (fun W => zero_any _ k.wd W))
    · rw [or_f a0] at H0
      rw [mag_mul x0 y0]
      exact times_fin W (hide H3) (hide H2) (hide H0) (i64_id (by omega) (by omega)) (hide (fun W => mul_n S1 S2 W s0 (by omega) t0 (by omega))) (hide (fun W => pack_wide k _ _ (sig_mul s1 t1) (by omega) (by omega) W))

theorem mul_any' {w e f P Q b x y : Int} (k : Kd w e f P Q b) (W : World) (x0 : 0 ≤ x) (x1 : x < 18446744073709551616) (y0 : 0 ≤ y) (y1 : y < 18446744073709551616) :
    Calls Tryz.prog 87 #[.int .i64 w, .int .u64 x, .int .u64 y] W fun r W' => r = .returned (.int .u64 (mulB f P Q b x y)) ∧ Below W.heap.size W W' := by
  obtain ⟨X1, S1, o1, p1, m1⟩ := open_kd k x
  obtain ⟨X2, S2, o2, p2, m2⟩ := open_kd k y
  have HP := hide (fun W => times_any k (oN P Q x) (oN P Q y) p1 p2 W)
  unfold mulB
  rw [m1, m2] at HP
  exact mul_l W (hide (fun W => open_any x k.wd W x0 x1 o1)) (hide (fun W => open_any y k.wd W y0 y1 o2)) HP
end Go.Proofs.YtpbgpdmffejdgaaGreatDoor
namespace Go.Proofs.YtpbgpdmffejdgaaGreatDoor
open Go.RowKit
open Go.Proofs.YtpbgpdmffejdgaaGreatDoor.W

/-- The float that is nearest to X by D, 5000 bits up. -/
def rdQ (f P Q b : Int) (n : Bool) (X D : Nat) : Int := fl f P Q n (lid P Q (codeQ f.toNat (lowN f b) X D : Nat))

theorem bl_64 {x : Nat} (h : x < 18446744073709551616) : Go.bitLen x ≤ 64 := bitLen_of (k := 64) (by omega)
theorem cmp_lt {x y : Nat} : decide (cmpN x y < 0) = decide (x < y) := by
  unfold cmpN
  by_cases h : x < y
  · rw [if_pos h, dt h]
    rfl
  · rw [if_neg h, df h]
    split <;> rfl
end Go.Proofs.YtpbgpdmffejdgaaGreatDoor
namespace Go.Proofs.YtpbgpdmffejdgaaGreatDoor
open Go.RowKit
open Go.Proofs.YtpbgpdmffejdgaaGreatDoor.W

/-- The quotient of two floats that are taken apart. -/
def divP (f P Q b : Int) (n1 : Bool) (K1 : Int) (M1 : Nat) (n2 : Bool) (K2 : Int) (M2 : Nat) : Int :=
  if K1 = 3 ∨ K2 = 3 ∨ (K1 = 2 ∧ K2 = 2) ∨ (K1 = 0 ∧ K2 = 0) then nanB f P Q
  else if K1 = 2 ∨ K2 = 0 then put f P Q (n1 != n2) (Q - 1) 0
  else if K1 = 0 ∨ K2 = 2 then put f P Q (n1 != n2) 0 0
  else rdQ f P Q b (n1 != n2) (M1 * 2 ^ Z5) M2
/-- The quotient of two floats. -/
def divB (f P Q b x y : Int) : Int := divP f P Q b (oN P Q x) (oK P Q x) (oM f P Q b x) (oN P Q y) (oK P Q y) (oM f P Q b y)

theorem mag_div (f P Q b : Int) (n : Bool) {X1 S1 X2 S2 : Int} (h1 : -1200 ≤ X1) (h2 : -1200 ≤ X2) (h3 : X2 ≤ 1100) :
    rdQ f P Q b n (mag X1 S1 * 2 ^ Z5) (mag X2 S2) = rdQ f P Q b n (S1.toNat * 2 ^ (X1 - X2 + 5000).toNat) S2.toNat := by
  unfold rdQ mag
  have e : S1.toNat * 2 ^ (X1 + 5000).toNat * 2 ^ Z5 = S1.toNat * 2 ^ (X1 - X2 + 5000).toNat * 2 ^ (X2 + 5000).toNat := by
    rw [Nat.mul_assoc, ← Nat.pow_add, Nat.mul_assoc, ← Nat.pow_add, show (X1 + 5000).toNat + Z5 = (X1 - X2 + 5000).toNat + (X2 + 5000).toNat by unfold Z5; omega]
  rw [e, codeQ_scale _ _ _ _ _ (Nat.two_pow_pos _)]

/-- What a quotient is: the canonical NaN, or a float of that sign. -/
theorem div_form {w e f P Q b : Int} (k : Kd w e f P Q b) (K1 K2 : Int) (M1 M2 : Nat) :
    (∀ n1 n2, divP f P Q b n1 K1 M1 n2 K2 M2 = nanB f P Q) ∨ ∃ c, 0 ≤ c ∧ c ≤ top P Q ∧ ∀ n1 n2, divP f P Q b n1 K1 M1 n2 K2 M2 = fl f P Q (n1 != n2) c := by
  have ht := top_pos k
  unfold divP
  by_cases h : K1 = 3 ∨ K2 = 3 ∨ (K1 = 2 ∧ K2 = 2) ∨ (K1 = 0 ∧ K2 = 0)
  · exact Or.inl (fun _ _ => if_pos h)
  · refine Or.inr ?_
    by_cases h2 : K1 = 2 ∨ K2 = 0
    · exact ⟨_, Int.le_of_lt ht, Int.le_refl _, fun n1 n2 => by rw [if_neg h, if_pos h2]; exact put_inf k _⟩
    · by_cases h3 : K1 = 0 ∨ K2 = 2
      · exact ⟨0, Int.le_refl _, Int.le_of_lt ht, fun n1 n2 => by rw [if_neg h, if_neg h2, if_pos h3]; exact put_nought _⟩
      · exact ⟨_, (lid_top k _).1, (lid_top k _).2, fun n1 n2 => by rw [if_neg h, if_neg h2, if_neg h3]; rfl⟩
/-- The bits of a power of two. -/
theorem pow_any {w e f P Q b E : Int} (k : Kd w e f P Q b) (j0 : 1 ≤ E) (j1 : E < Q - 1) :
    0 ≤ put f P Q false E 0 ∧ put f P Q false E 0 < 18446744073709551616 ∧ oK P Q (put f P Q false E 0) = 1 ∧ oN P Q (put f P Q false E 0) = false ∧ oM f P Q b (put f P Q false E 0) = 2 ^ (5000 + E - b).toNat := by
  obtain ⟨p1, p2, q1, q2⟩ := k.pos
  obtain ⟨hP, f0, f1, l0, l1, b0, b1⟩ := k.pow
  obtain ⟨r0, r1, r2, r3, r4⟩ := put_in (x := E) (y := 0) (n := false) k (by omega) (by omega) (by omega) (by omega)
  refine ⟨r0, r1, ?_, ?_, ?_⟩
  · unfold oK
    rw [r3, r4, if_neg (by omega), if_neg (by omega)]
  · unfold oN
    rw [r3, r4, if_neg (by omega), r2]
  · unfold oM oc
    rw [r3, r4, if_neg (by omega)]
    have hv := fval_norm f.toNat (lowN f b) (2 ^ f.toNat) (lowN f b + (E.toNat - 1)) (by rw [Nat.pow_succ]; have := Nat.two_pow_pos f.toNat; omega) (by omega) (fun _ => Nat.le_refl _)
    rw [← Nat.pow_add] at hv
    have e1 : (E * P + 0).toNat = (lowN f b + (E.toNat - 1) - lowN f b) * 2 ^ f.toNat + 2 ^ f.toNat := by
      rw [show lowN f b + (E.toNat - 1) - lowN f b = E.toNat - 1 by omega]
      have : ((E.toNat * 2 ^ f.toNat : Nat) : Int) = E * P := by
        rw [Int.natCast_mul, ← hP, Int.toNat_of_nonneg (by omega)]
      obtain ⟨i, hi⟩ : ∃ i, E.toNat = i + 1 := ⟨E.toNat - 1, by omega⟩
      rw [hi] at this ⊢
      rw [Nat.add_sub_cancel]
      rw [Nat.add_mul, Nat.one_mul] at this
      omega
    rw [e1, hv]
    congr 1
    unfold lowN
    omega

theorem mag_shift {X S N : Int} (h0 : -1200 ≤ X) (h1 : -1100 ≤ N) (h2 : N ≤ 1100) : mag X S * 2 ^ Z5 / 2 ^ (5000 - N).toNat = S.toNat * 2 ^ (X + N + 5000).toNat ∧ mag X S * 2 ^ Z5 = S.toNat * 2 ^ (X + N + 5000).toNat * 2 ^ (5000 - N).toNat := by
  have e : mag X S * 2 ^ Z5 = S.toNat * 2 ^ (X + N + 5000).toNat * 2 ^ (5000 - N).toNat := by
    unfold mag
    rw [Nat.mul_assoc, ← Nat.pow_add, Nat.mul_assoc, ← Nat.pow_add, show (X + 5000).toNat + Z5 = (X + N + 5000).toNat + (5000 - N).toNat by unfold Z5; omega]
  exact ⟨by rw [e]; exact Nat.mul_div_cancel _ (Nat.two_pow_pos _), e⟩

/-- By a power of two. -/
theorem div_pow {w e f P Q b E : Int} (k : Kd w e f P Q b) (x : Int) (j0 : 1 ≤ E) (j1 : E < Q - 1) :
    divB f P Q b x (put f P Q false E 0) = if oK P Q x = 3 then nanB f P Q else if oK P Q x = 2 then put f P Q (oN P Q x) (Q - 1) 0 else rd f P Q b (oN P Q x) (oM f P Q b x * 2 ^ Z5 / 2 ^ (5000 + E - b).toNat) := by
  obtain ⟨-, -, h1, h2, h3⟩ := pow_any k j0 j1
  obtain ⟨X, S, -, p1, m1⟩ := open_kd k x
  obtain ⟨u0, u1, -⟩ := p1.in k
  have hE : -1100 ≤ b - E ∧ b - E ≤ 1100 := by rcases k with ⟨-, -, -, -, rfl, rfl⟩ | ⟨-, -, -, -, rfl, rfl⟩ <;> omega
  unfold divB
  rw [h1, h2, h3]
  unfold divP
  have hn : (oN P Q x != false) = oN P Q x := by cases oN P Q x <;> rfl
  rw [hn]
  by_cases k3 : oK P Q x = 3
  · rw [if_pos (Or.inl k3), if_pos k3]
  · rw [if_neg (by omega), if_neg k3]
    by_cases k2 : oK P Q x = 2
    · rw [if_pos (Or.inl k2), if_pos k2]
    · rw [if_neg (by omega), if_neg k2]
      by_cases k0 : oK P Q x = 0
      · have hm : oM f P Q b x = 0 := by rw [← m1]; exact p1.mag0 (by omega)
        rw [if_pos (Or.inl k0), hm, Nat.zero_mul, Nat.zero_div, rd_zero k]
      · rw [if_neg (by omega), ← m1]
        obtain ⟨s1, s2⟩ := mag_shift (X := X) (S := S) (N := b - E) u0 hE.1 hE.2
        rw [show (5000 + E - b) = 5000 - (b - E) by omega, s1, s2]
        unfold rdQ rd
        rw [codeQ_even _ _ _ _ (Nat.two_pow_pos _)]
/-- By one. -/
theorem div_one {w e f P Q b : Int} (k : Kd w e f P Q b) {x : Int} (h : oK P Q x ≠ 3) : divB f P Q b x (put f P Q false b 0) = cutN f P Q x := by
  have hb : 1 ≤ b ∧ b < Q - 1 := by rcases k with ⟨-, -, -, -, rfl, rfl⟩ | ⟨-, -, -, -, rfl, rfl⟩ <;> omega
  rw [div_pow k x hb.1 hb.2, cut_fl k h, if_neg h]
  by_cases k2 : oK P Q x = 2
  · rw [if_pos k2, put_inf k]
    rcases kind_oc k x with ⟨h1, _⟩ | ⟨_, h1, _⟩ | ⟨h1, _⟩ | ⟨h1, _⟩
    · exact absurd h1 h
    · rw [h1]
    · omega
    · omega
  · obtain ⟨h1, h2⟩ := oM_fin k ⟨h, k2⟩
    rw [if_neg k2, show (5000 + b - b).toNat = Z5 by unfold Z5; omega, Nat.mul_div_cancel _ (Nat.two_pow_pos Z5), h1, rd_val k _ h2]
/-- One. -/
theorem rd_one {w e f P Q b : Int} (k : Kd w e f P Q b) : rd f P Q b false (2 ^ Z5) = put f P Q false b 0 := by
  have hb : 1 ≤ b ∧ b < Q - 1 := by rcases k with ⟨-, -, -, -, rfl, rfl⟩ | ⟨-, -, -, -, rfl, rfl⟩ <;> omega
  obtain ⟨p1, p2, q1, q2⟩ := k.pos
  obtain ⟨r0, r1, h1, h2, h3⟩ := pow_any k hb.1 hb.2
  obtain ⟨g1, g2⟩ := oM_fin (x := put f P Q false b 0) k ⟨by omega, by omega⟩
  have hc : cutN f P Q (put f P Q false b 0) = put f P Q false b 0 := by
    obtain ⟨-, -, c2, c3, c4⟩ := put_in (n := false) (x := b) (y := 0) k (by omega) (by omega) (by omega) (by omega)
    rw [← cut_put k.wd.sz, c2, c3, c4]
  rw [show Z5 = (5000 + b - b).toNat by unfold Z5; omega, ← h3, g1, rd_val k _ g2]
  have := cut_fl k (x := put f P Q false b 0) (by omega)
  rw [hc, h2] at this
  exact this.symm
/-- By itself. -/
theorem div_self {w e f P Q b : Int} (k : Kd w e f P Q b) {x : Int} (h : oK P Q x = 1) : divB f P Q b x x = put f P Q false b 0 := by
  unfold divB divP
  rw [h, if_neg (by omega), if_neg (by omega), if_neg (by omega), show (oN P Q x != oN P Q x) = false by cases oN P Q x <;> rfl, ← rd_one k, Nat.mul_comm]
  unfold rdQ rd
  have hm : 0 < oM f P Q b x := by
    rcases kind_oc k x with ⟨h1, _⟩ | ⟨h1, _⟩ | ⟨_, h1, _, h2⟩ | ⟨h1, _⟩
    · omega
    · omega
    · rw [h2]
      exact fval_pos (by omega)
    · omega
  rw [codeQ_even _ _ _ _ hm]

/-- A quotient of 128 bits and a bit for the rest. -/
theorem quo_pack {w e f P Q b X1 S1 X2 S2 : Int} (k : Kd w e f P Q b) (h1 : Prt f P Q b 1 X1 S1) (h2 : Prt f P Q b 1 X2 S2) (up : Nat) (hup : up + Go.bitLen S1.toNat = 128) (m : Bool)
    (hm : m = (S1.toNat * 2 ^ up % S2.toNat != 0)) :
    code f.toNat (lowN f b) (num (S1.toNat * 2 ^ up / S2.toNat) m (cap (X1 - up - X2))) = codeQ f.toNat (lowN f b) (S1.toNat * 2 ^ (X1 - X2 + 5000).toNat) S2.toNat := by
  obtain ⟨x0, x1, s0, -, s1⟩ := h1.in k
  obtain ⟨y0, y1, t0, -, t1⟩ := h2.in k
  obtain ⟨hP, f0, f1, l0, l1, b0, b1⟩ := k.pow
  have hS1 : S1.toNat ≠ 0 := by unfold Prt at h1; omega
  have hS2 : 0 < S2.toNat := by unfold Prt at h2; omega
  have hu1 : up ≤ 128 := by omega
  rw [cap_id (by omega) (by omega)]
  obtain ⟨j, hj⟩ : ∃ j : Nat, (j : Int) = X1 - up - X2 + 5000 := ⟨(X1 - up - X2 + 5000).toNat, by omega⟩
  have e1 : S1.toNat * 2 ^ (X1 - X2 + 5000).toNat = S1.toNat * 2 ^ up * 2 ^ j := by
    rw [Nat.mul_assoc, ← Nat.pow_add, show (X1 - X2 + 5000).toNat = up + j by omega]
  have e2 : S1.toNat * 2 ^ (X1 - X2 + 5000).toNat / (S2.toNat * 2 ^ j) = S1.toNat * 2 ^ up / S2.toNat := by
    rw [e1, Nat.mul_div_mul_right _ _ (Nat.two_pow_pos j)]
  have e3 : S1.toNat * 2 ^ (X1 - X2 + 5000).toNat % (S2.toNat * 2 ^ j) = S1.toNat * 2 ^ up % S2.toNat * 2 ^ j := by
    rw [e1, Nat.mul_mod_mul_right]
  have hlen : Go.bitLen (S1.toNat * 2 ^ up) = 128 := by rw [bl_shl _ _ hS1]; omega
  have hbig : 2 ^ 74 ≤ S1.toNat * 2 ^ up / S2.toNat := by
    rw [Nat.le_div_iff_mul_le hS2]
    have h3 : 2 ^ 127 ≤ S1.toNat * 2 ^ up := bl_ge (by omega)
    have h4 : 2 ^ 74 * S2.toNat ≤ 2 ^ 74 * 9007199254740992 := Nat.mul_le_mul_left _ (by omega)
    omega
  have hq0 : S1.toNat * 2 ^ up / S2.toNat ≠ 0 := by omega
  have hqb : 75 ≤ Go.bitLen (S1.toNat * 2 ^ up / S2.toNat) := by
    have := bl_mono hbig
    rw [show Go.bitLen (2 ^ 74) = 75 from by decide +kernel] at this
    exact this
  have hun : j + 1 ≤ unitQ f.toNat (lowN f b) (S1.toNat * 2 ^ (X1 - X2 + 5000).toNat) S2.toNat := by
    unfold unitQ
    have : Go.bitLen (S1.toNat * 2 ^ (X1 - X2 + 5000).toNat / S2.toNat) = j + Go.bitLen (S1.toNat * 2 ^ up / S2.toNat) := by
      rw [← e2, ← Nat.div_div_eq_div_mul]
      exact Go.bitLen_shift _ j (by rw [Nat.div_div_eq_div_mul, e2]; exact hq0)
    omega
  rw [codeQ_sticky _ _ _ _ j hS2 (by omega) (by rw [e2]; exact hq0) hun, e2, e3]
  unfold num
  rw [show (X1 - ↑up - X2 + 4999).toNat = j - 1 by omega]
  congr 3
  rw [hm]
  by_cases hr : S1.toNat * 2 ^ up % S2.toNat = 0
  · rw [hr, Nat.zero_mul, if_pos rfl]
    rfl
  · rw [if_neg (by
      intro h
      rcases Nat.mul_eq_zero.1 h with h | h
      · exact hr h
      · exact absurd h (Nat.ne_of_gt (Nat.two_pow_pos j)))]
    rw [show (S1.toNat * 2 ^ up % S2.toNat != 0) = true by simpa using hr]
    rfl

end Go.Proofs.YtpbgpdmffejdgaaGreatDoor
namespace Go.Proofs.YtpbgpdmffejdgaaGreatDoor
open Go.RowKit
open Go.Proofs.YtpbgpdmffejdgaaGreatDoor.W

/-- The code of the float that is nearest to the root of T. -/
def IsRoot (f L T c : Nat) : Prop := ∀ d, rootLe f L T d ↔ c ≤ d

theorem IsRoot.uniq {f L T c d : Nat} (h : IsRoot f L T c) (k : IsRoot f L T d) : c = d := by
  have h1 := (h d).1 ((k d).2 (Nat.le_refl _))
  have h2 := (k c).1 ((h c).2 (Nat.le_refl _))
  omega
theorem IsRoot.mono {f L T T' c d : Nat} (h : IsRoot f L T c) (k : IsRoot f L T' d) (ht : T ≤ T') : c ≤ d := (h d).1 (rootLe_mono ht ((k d).2 (Nat.le_refl _)))
/-- A finite float's root is finite, and normal. -/
theorem root_in {w e f P Q b : Int} (k : Kd w e f P Q b) {x : Int} (hx : oK P Q x = 1) {c : Nat} (h : IsRoot f.toNat (lowN f b) (oM f P Q b x * 2 ^ Z5) c) : 2 ^ f.toNat < c ∧ (c : Int) < top P Q := by
  obtain ⟨hP, f0, f1, l0, l1, b0, b1⟩ := k.pow
  obtain ⟨hm, ht⟩ := oM_fin k (x := x) ⟨by omega, by omega⟩
  have hpos : 0 < oc P Q x := by
    rcases kind_oc k x with ⟨h1, _⟩ | ⟨h1, _⟩ | ⟨_, h1, _⟩ | ⟨h1, _⟩
    · omega
    · omega
    · exact h1
    · omega
  have htp := top_pos k
  obtain ⟨tp, htt⟩ : ∃ tp : Nat, (tp : Int) = top P Q := ⟨(top P Q).toNat, by omega⟩
  rw [hm] at h
  generalize oc P Q x = d at *
  have hb5 : f + 3 ≤ b := by rcases k with ⟨-, -, rfl, -, -, rfl⟩ | ⟨-, -, rfl, -, -, rfl⟩ <;> omega
  have hL : lowN f b + f.toNat + b.toNat = 5001 := by unfold lowN; omega
  -- one lies among the floats
  have hone : 2 ^ Z5 ≤ fval f.toNat (lowN f b) (tp - 1) := by
    have hv := fval_norm f.toNat (lowN f b) (2 ^ f.toNat) (lowN f b + (b.toNat - 1)) (by rw [Nat.pow_succ]; have := Nat.two_pow_pos f.toNat; omega) (by omega) (fun _ => Nat.le_refl _)
    rw [← Nat.pow_add, show lowN f b + (b.toNat - 1) - lowN f b = b.toNat - 1 by omega] at hv
    have e : f.toNat + (lowN f b + (b.toNat - 1)) = Z5 := by unfold Z5; omega
    rw [e] at hv
    rw [← hv, fval_le]
    have : ((b.toNat - 1) * 2 ^ f.toNat + 2 ^ f.toNat : Nat) ≤ tp - 1 := by
      have h2 : (((b.toNat - 1) * 2 ^ f.toNat + 2 ^ f.toNat : Nat) : Int) = b * P := by
        rw [show (b.toNat - 1) * 2 ^ f.toNat + 2 ^ f.toNat = b.toNat * 2 ^ f.toNat by
          obtain ⟨i, hi⟩ : ∃ i, b.toNat = i + 1 := ⟨b.toNat - 1, by omega⟩
          rw [hi, Nat.add_sub_cancel, Nat.add_mul, Nat.one_mul], Int.natCast_mul, ← hP, Int.toNat_of_nonneg (by omega)]
      have h3 : b * P + 1 ≤ top P Q := by
        unfold top
        rcases k with ⟨-, -, -, rfl, rfl, rfl⟩ | ⟨-, -, -, rfl, rfl, rfl⟩ <;> omega
      omega
    exact this
  constructor
  · refine Decidable.byContradiction fun hn => ?_
    have h1 := (h (2 ^ f.toNat)).2 (by omega)
    have h2 : mid2 f.toNat (lowN f b) (2 ^ f.toNat) = (2 * 2 ^ f.toNat + 1) * 2 ^ lowN f b := by
      have := mid2_norm f.toNat (lowN f b) (2 ^ f.toNat) (lowN f b) (by rw [Nat.pow_succ]; have := Nat.two_pow_pos f.toNat; omega) (Nat.le_refl _) (fun h => absurd h (Nat.lt_irrefl _))
      rw [Nat.sub_self, Nat.zero_mul, Nat.zero_add] at this
      exact this
    have h3 : mid2 f.toNat (lowN f b) (2 ^ f.toNat) ≤ 2 ^ (f.toNat + 2 + lowN f b) := by
      rw [h2, Nat.pow_add]
      refine Nat.mul_le_mul_right _ ?_
      rw [show f.toNat + 2 = f.toNat + 1 + 1 by omega, Nat.pow_succ, Nat.pow_succ]
      have := Nat.two_pow_pos f.toNat
      omega
    have h4 := Nat.mul_le_mul h3 h3
    rw [← Nat.pow_add] at h4
    have h5 : 2 ^ (lowN f b) ≤ fval f.toNat (lowN f b) d := by
      have := (fval_le (f := f.toNat) (L := lowN f b) (c := 1) (d := d)).2 hpos
      have e1 : fval f.toNat (lowN f b) 1 = 2 ^ lowN f b := by
        unfold fval
        rw [if_pos (by rw [Nat.pow_succ]; have := Nat.two_pow_pos f.toNat; omega), Nat.one_mul]
      omega
    have h6 := Nat.mul_le_mul_right (2 ^ Z5) h5
    rw [← Nat.pow_add] at h6
    have h7 : 2 ^ (f.toNat + 2 + lowN f b + (f.toNat + 2 + lowN f b)) ≤ 2 ^ (lowN f b + Z5) := Nat.pow_le_pow_right (by omega) (by unfold Z5; omega)
    have h8 := Nat.two_pow_pos (lowN f b + Z5)
    unfold rootLe at h1
    generalize 2 ^ (lowN f b + Z5) = A at *
    generalize fval f.toNat (lowN f b) d * 2 ^ Z5 = T at *
    generalize mid2 f.toNat (lowN f b) (2 ^ f.toNat) * mid2 f.toNat (lowN f b) (2 ^ f.toNat) = mm at *
    omega
  · have h1 : rootLe f.toNat (lowN f b) (fval f.toNat (lowN f b) d * 2 ^ Z5) (tp - 1) := by
      have h2 : fval f.toNat (lowN f b) d ≤ fval f.toNat (lowN f b) (tp - 1) := fval_le.2 (by omega)
      have h3 := Nat.mul_le_mul h2 hone
      have h4 : 2 * fval f.toNat (lowN f b) (tp - 1) < mid2 f.toNat (lowN f b) (tp - 1) := by
        have := (fval_lt (f := f.toNat) (L := lowN f b) (c := tp - 1) (d := tp - 1 + 1)).2 (by omega)
        unfold mid2
        omega
      have h5 := sq_lt.2 h4
      rw [Nat.mul_mul_mul_comm] at h5
      unfold rootLe
      exact Or.inl (by omega)
    have h2 := (h (tp - 1)).1 h1
    omega

end Go.Proofs.YtpbgpdmffejdgaaGreatDoor
namespace Go.Proofs.YtpbgpdmffejdgaaGreatDoor
open Go.RowKit
open Go.Proofs.YtpbgpdmffejdgaaGreatDoor.W

set_option maxRecDepth 100000 in
set_option maxHeartbeats 2000000 in
theorem okn_l {w e f : Int} (W : World) (HF : Ct 23 #[.int .i64 w] (.tuple #[.int .i64 e, .int .i64 f])) :
    Calls Tryz.prog 131 #[.int .i64 w] W fun r W' => r = .returned (.bool (e != 0)) ∧ Below W.heap.size W W' := by
  go_enter Tryz.func131, Tryz.ntmps131
  go_wp2_with fail
  refine (unhide HF _).mono ?_
  rintro _ w1 ⟨rfl, hb⟩
  have HB := hide hb
  clear hb
  go_wp2_with fail
  go_ret
  exact ⟨rfl, unhide HB⟩
set_option maxRecDepth 100000 in
set_option maxHeartbeats 2000000 in
theorem rank_n {w x : Int} (W : World) (HKN : Ct 131 #[.int .i64 w] (.bool true)) (HIN : Ct 261 #[.int .i64 w, .int .u64 x] (.bool true)) :
    Calls Tryz.prog 205 #[.int .i64 w, .int .u64 x] W fun r W' => r = .returned (.tuple #[.int .i64 0, .bool false]) ∧ Below W.heap.size W W' := by
  go_enter Tryz.func205, Tryz.ntmps205
  go_wp2_with fail
  refine (unhide HKN _).mono ?_
  rintro _ w1 ⟨rfl, hb⟩
  have HB := hide hb
  clear hb
  go_wp2_with fail
  refine (unhide HIN _).mono ?_
  rintro _ w2 ⟨rfl, hb⟩
  have HB := hide (bthen (unhide HB) hb)
  clear hb
  go_wp2_with fail
  go_ret2
  exact ⟨rfl, unhide HB⟩
set_option maxRecDepth 100000 in
set_option maxHeartbeats 2000000 in
theorem rank_p {w x c Z A B : Int} (W : World) (HKN : Ct 131 #[.int .i64 w] (.bool true)) (HIN : Ct 261 #[.int .i64 w, .int .u64 x] (.bool false)) (HZ : Ct 155 #[.int .i64 w, .bool true] (.int .u64 Z)) (HC : Ct 17 #[.int .i64 w, .int .u64 x] (.int .u64 c)) (h1 : bits .andNot .u64 c Z = A) (h2 : IntKind.i64.wrap A = A) (h3 : bits .and .u64 c Z = B) (h4 : (B != 0) = false) :
    Calls Tryz.prog 205 #[.int .i64 w, .int .u64 x] W fun r W' => r = .returned (.tuple #[.int .i64 A, .bool true]) ∧ Below W.heap.size W W' := by
  go_enter Tryz.func205, Tryz.ntmps205
  go_wp2_with fail
  refine (unhide HKN _).mono ?_
  rintro _ w1 ⟨rfl, hb⟩
  have HB := hide hb
  clear hb
  go_wp2_with fail
  refine (unhide HIN _).mono ?_
  rintro _ w2 ⟨rfl, hb⟩
  have HB := hide (bthen (unhide HB) hb)
  clear hb
  go_wp2_with fail
  refine (unhide HZ _).mono ?_
  rintro _ w3 ⟨rfl, hb⟩
  have HB := hide (bthen (unhide HB) hb)
  clear hb
  go_wp2_with fail
  refine (unhide HC _).mono ?_
  rintro _ w4 ⟨rfl, hb⟩
  have HB := hide (bthen (unhide HB) hb)
  clear hb
  go_wp2_with fail
  go_ret2
  exact ⟨rfl, unhide HB⟩
set_option maxRecDepth 100000 in
set_option maxHeartbeats 2000000 in
theorem rank_m {w x c Z A B M : Int} (W : World) (HKN : Ct 131 #[.int .i64 w] (.bool true)) (HIN : Ct 261 #[.int .i64 w, .int .u64 x] (.bool false)) (HZ : Ct 155 #[.int .i64 w, .bool true] (.int .u64 Z)) (HC : Ct 17 #[.int .i64 w, .int .u64 x] (.int .u64 c)) (h1 : bits .andNot .u64 c Z = A) (h2 : IntKind.i64.wrap A = A) (h3 : bits .and .u64 c Z = B) (h4 : (B != 0) = true) (h5 : IntKind.i64.wrap (-A) = M) :
    Calls Tryz.prog 205 #[.int .i64 w, .int .u64 x] W fun r W' => r = .returned (.tuple #[.int .i64 M, .bool true]) ∧ Below W.heap.size W W' := by
  go_enter Tryz.func205, Tryz.ntmps205
  go_wp2_with fail
  refine (unhide HKN _).mono ?_
  rintro _ w1 ⟨rfl, hb⟩
  have HB := hide hb
  clear hb
  go_wp2_with fail
  refine (unhide HIN _).mono ?_
  rintro _ w2 ⟨rfl, hb⟩
  have HB := hide (bthen (unhide HB) hb)
  clear hb
  go_wp2_with fail
  refine (unhide HZ _).mono ?_
  rintro _ w3 ⟨rfl, hb⟩
  have HB := hide (bthen (unhide HB) hb)
  clear hb
  go_wp2_with fail
  refine (unhide HC _).mono ?_
  rintro _ w4 ⟨rfl, hb⟩
  have HB := hide (bthen (unhide HB) hb)
  clear hb
  go_wp2_with fail
  go_ret2
  exact ⟨rfl, unhide HB⟩

end Go.Proofs.YtpbgpdmffejdgaaGreatDoor
namespace Go.Proofs.YtpbgpdmffejdgaaGreatDoor
open Go.RowKit
open Go.Proofs.YtpbgpdmffejdgaaGreatDoor.W

/-- A whole number's sign: H is half of what there is room for. -/
def ngs (H : Int) (s : Bool) (x : Int) : Bool := s && decide (H ≤ x % (2 * H))
/-- A whole number's amount. -/
def amt (H : Int) (s : Bool) (x : Int) : Int := if ngs H s x = true then 2 * H - x % (2 * H) else x % (2 * H)
/-- The float that is nearest to it. -/
def makC (f P Q b H : Int) (s : Bool) (x : Int) : Int := rd f P Q b (ngs H s x) ((amt H s x).toNat * 2 ^ Z5)
/-- The float that is nearest to a float of another width. -/
def turnB (f P Q b : Int) (n : Bool) (K : Int) (M : Nat) : Int := if K = 3 then nanB f P Q else if K = 2 then put f P Q n (Q - 1) 0 else rd f P Q b n M

theorem ngs_f (H x : Int) : ngs H false x = false := rfl
theorem amt_f (H x : Int) : amt H false x = x % (2 * H) := by unfold amt; rw [ngs_f, if_neg (by decide)]
theorem ngs_t {H x : Int} (h : H ≤ x % (2 * H)) : ngs H true x = true := by unfold ngs; simpa using h
theorem ngs_p {H x : Int} (h : ¬ H ≤ x % (2 * H)) : ngs H true x = false := by unfold ngs; simpa using h
theorem amt_t {H x : Int} (h : H ≤ x % (2 * H)) : amt H true x = 2 * H - x % (2 * H) := by unfold amt; rw [ngs_t h, if_pos rfl]
theorem amt_p {H x : Int} (h : ¬ H ≤ x % (2 * H)) : amt H true x = x % (2 * H) := by unfold amt; rw [ngs_p h, if_neg (by decide)]
/-- What half of a width's room is. -/
theorem kd_half {w e f P Q b : Int} (k : Kd w e f P Q b) : (w = 32 ∧ P * Q = 2147483648) ∨ (w = 64 ∧ P * Q = 9223372036854775808) := by
  rcases k with ⟨rfl, -, -, rfl, rfl, -⟩ | ⟨rfl, -, -, rfl, rfl, -⟩
  · exact Or.inl ⟨rfl, rfl⟩
  · exact Or.inr ⟨rfl, rfl⟩
theorem amt_in {w e f P Q b : Int} (k : Kd w e f P Q b) (s : Bool) (x : Int) : 0 ≤ amt (P * Q) s x ∧ amt (P * Q) s x < 18446744073709551616 ∧ (ngs (P * Q) s x = true → amt (P * Q) s x ≠ 0) := by
  have hk := kd_half k
  generalize P * Q = H at *
  have hm : 0 ≤ x % (2 * H) ∧ x % (2 * H) < 2 * H := ⟨Int.emod_nonneg _ (by omega), Int.emod_lt_of_pos _ (by omega)⟩
  cases s
  · rw [amt_f, ngs_f]
    exact ⟨hm.1, by omega, fun h => by cases h⟩
  · by_cases h : H ≤ x % (2 * H)
    · rw [amt_t h]
      exact ⟨by omega, by omega, fun _ => by omega⟩
    · rw [amt_p h, ngs_p h]
      exact ⟨hm.1, by omega, fun h => by cases h⟩

theorem put_f0 {f P Q : Int} : put f P Q false 0 0 = 0 := by unfold put; split <;> simp

end Go.Proofs.YtpbgpdmffejdgaaGreatDoor
