/- Contracts of package round's number: nearest. -/
import Derived.Test.YtpbgpdmffejdgaaGreatDoorFloat
import Derived.Test.YtpbgpdmffejdgaaGreatDoorTk
namespace Go.Proofs.YtpbgpdmffejdgaaGreatDoor
open Go.RowKit

set_option maxRecDepth 100000 in
set_option maxHeartbeats 4000000 in
theorem nearest_z {h l E w f L M V : Int} {n m : Bool} (W : World) (HN : Ct 265 #[.agg #[.bool n, .int .u64 h, .int .u64 l, .int .i64 E, .bool m]] (.bool true)) (HC : Ct 155 #[.int .i64 w, .bool n] (.int .u64 V)) :
    Calls Tryz.prog 238 #[.agg #[.bool n, .int .u64 h, .int .u64 l, .int .i64 E, .bool m, .int .i64 w, .int .i64 f, .int .i64 L, .int .i64 M]] W fun r W' => r = .returned (.int .u64 V) ∧ Below W.heap.size W W' := by
  go_enter Tryz.func238, Tryz.ntmps238
  go_wp2_with fail
  refine (unhide HN _).mono ?_
  rintro _ w1 ⟨rfl, hb⟩
  have HA := hide ((at9_new W _ _ _ _ _ _ _ _ _ 202).below hb)
  have HB := hide (bthen (below1 _ _) hb)
  clear hb
  obtain ⟨a0, a1, a2, a3, a4, a5, a6, a7, a8⟩ := unhide HA
  go_wp2_with fail
  refine (unhide HC _).mono ?_
  rintro _ w2 ⟨rfl, hb⟩
  have HB := hide (bthen (unhide HB) hb)
  clear hb
  go_wp2_with fail
  go_ret
  exact ⟨rfl, unhide HB⟩
set_option maxRecDepth 100000 in
set_option maxHeartbeats 4000000 in
theorem nearest_dn {h l E w f L M V T Nn s hb0 : Int} {n m lost : Bool} (W : World) (HN : Ct 265 #[.agg #[.bool n, .int .u64 h, .int .u64 l, .int .i64 E, .bool m]] (.bool false)) (HT : Ct 266 #[.agg #[.bool n, .int .u64 h, .int .u64 l, .int .i64 E, .bool m]] (.int .i64 T)) (kt : IntKind.i64.wrap (T - f) = T - f) (xm : ¬ T - f < L)
    (kN : Nn / 2 = s) (ka : bits .and .u64 Nn 1 = hb0) (kh : (hb0 == 1) = false)
    (HH : Ct 267 #[.agg #[.bool n, .int .u64 h, .int .u64 l, .int .i64 E, .bool m], .int .i64 (T - f)] (.tuple #[.int .u64 Nn, .bool lost])) (HF : Ct 268 #[.agg #[.bool n, .int .u64 h, .int .u64 l, .int .i64 E, .bool m, .int .i64 w, .int .i64 f, .int .i64 L, .int .i64 M], .int .u64 s, .int .i64 (T - f)] (.int .u64 V)) :
    Calls Tryz.prog 238 #[.agg #[.bool n, .int .u64 h, .int .u64 l, .int .i64 E, .bool m, .int .i64 w, .int .i64 f, .int .i64 L, .int .i64 M]] W fun r W' => r = .returned (.int .u64 V) ∧ Below W.heap.size W W' := by
  go_enter Tryz.func238, Tryz.ntmps238
  go_wp2_with fail
  refine (unhide HN _).mono ?_
  rintro _ w1 ⟨rfl, hb⟩
  have HA := hide ((at9_new W _ _ _ _ _ _ _ _ _ 202).below hb)
  have HB := hide (bthen (below1 _ _) hb)
  clear hb
  go_wp2_with fail
  have HB := hide (unhide HB).drew
  have HA := hide ((unhide HA).below ((Below.refl _ _).drew))
  refine wp_region_held_drew (S := fun w' => w'.cell? ⟨W.heap.size, 0, none⟩ = some (.bool n) ∧ w'.cell? ⟨W.heap.size, 1, none⟩ = some (.int .u64 h) ∧ w'.cell? ⟨W.heap.size, 2, none⟩ = some (.int .u64 l) ∧ w'.cell? ⟨W.heap.size, 3, none⟩ = some (.int .i64 E) ∧ w'.cell? ⟨W.heap.size, 4, none⟩ = some (.bool m) ∧ w'.cell? ⟨W.heap.size, 5, none⟩ = some (.int .i64 w) ∧ w'.cell? ⟨W.heap.size, 6, none⟩ = some (.int .i64 f) ∧ w'.cell? ⟨W.heap.size, 7, none⟩ = some (.int .i64 L) ∧ w'.cell? ⟨W.heap.size, 8, none⟩ = some (.int .i64 M)) (by kernel_rfl) ?_ (fun hHeld => ?_)
  · (try dsimp only)
    exact unhide HA
  refine lst0 12 (by kernel_rfl) ?_
  refine tkA 0 18 1 ?_
  refine tkA 1 19 3 ?_
  refine tkA 3 21 11 ?_
  refine tkA 4 22 27 ?_
  refine tkA 5 23 59 ?_
  refine tkA 7 25 187 ?_
  refine tkA 8 26 443 ?_
  refine tkA 9 27 955 ?_
  refine rdA 2 959 (fun Kk hKk => ?_)
  go_simp
  refine (unhide HT _).mono ?_
  rintro _ w2 ⟨rfl, hbl⟩
  have HB := hide (bthen (unhide HB) hbl)
  have HA := hide ((unhide HA).below hbl)
  clear hbl
  (try go_wp2_with fail)
  refine hKk.out _ _ ?_ (fun hHeld => ?_)
  · (try dsimp only)
    exact unhide HA
  clear hKk Kk
  (try simp only [List.setIfInBounds_toArray, List.set_cons_zero, List.set_cons_succ])
  refine tkA 6 24 1023 ?_
  refine tkA 10 28 2047 ?_
  refine tkA 11 3 4095 ?_
  refine wpAnyH_done (by kernel_rfl) ?_ _
  clear hHeld
  obtain ⟨a0, a1, a2, a3, a4, a5, a6, a7, a8⟩ := unhide HA
  go_wp2_with fail
  clear a0 a1 a2 a3 a4 a5 a6 a7 a8
  refine (unhide HH _).mono ?_
  rintro _ w3 ⟨rfl, hbl⟩
  have HB := hide (bthen (unhide HB) hbl)
  have HA := hide ((unhide HA).below hbl)
  clear hbl
  obtain ⟨a0, a1, a2, a3, a4, a5, a6, a7, a8⟩ := unhide HA
  go_wp2_with fail
  refine (unhide HF _).mono ?_
  rintro _ w4 ⟨rfl, hbl⟩
  have HB := hide (bthen (unhide HB) hbl)
  clear hbl
  go_wp2_with fail
  go_ret
  exact ⟨rfl, unhide HB⟩

set_option maxRecDepth 100000 in
set_option maxHeartbeats 4000000 in
theorem nearest_du {h l E w f L M V T Nn s hb0 : Int} {n m : Bool} (W : World) (HN : Ct 265 #[.agg #[.bool n, .int .u64 h, .int .u64 l, .int .i64 E, .bool m]] (.bool false)) (HT : Ct 266 #[.agg #[.bool n, .int .u64 h, .int .u64 l, .int .i64 E, .bool m]] (.int .i64 T)) (kt : IntKind.i64.wrap (T - f) = T - f) (xm : ¬ T - f < L)
    (kN : Nn / 2 = s) (ka : bits .and .u64 Nn 1 = hb0) (kh : (hb0 == 1) = true) (kw : IntKind.u64.wrap (s + 1) = s + 1)
    (HH : Ct 267 #[.agg #[.bool n, .int .u64 h, .int .u64 l, .int .i64 E, .bool m], .int .i64 (T - f)] (.tuple #[.int .u64 Nn, .bool true])) (HF : Ct 268 #[.agg #[.bool n, .int .u64 h, .int .u64 l, .int .i64 E, .bool m, .int .i64 w, .int .i64 f, .int .i64 L, .int .i64 M], .int .u64 (s + 1), .int .i64 (T - f)] (.int .u64 V)) :
    Calls Tryz.prog 238 #[.agg #[.bool n, .int .u64 h, .int .u64 l, .int .i64 E, .bool m, .int .i64 w, .int .i64 f, .int .i64 L, .int .i64 M]] W fun r W' => r = .returned (.int .u64 V) ∧ Below W.heap.size W W' := by
  go_enter Tryz.func238, Tryz.ntmps238
  go_wp2_with fail
  refine (unhide HN _).mono ?_
  rintro _ w1 ⟨rfl, hb⟩
  have HA := hide ((at9_new W _ _ _ _ _ _ _ _ _ 202).below hb)
  have HB := hide (bthen (below1 _ _) hb)
  clear hb
  go_wp2_with fail
  have HB := hide (unhide HB).drew
  have HA := hide ((unhide HA).below ((Below.refl _ _).drew))
  refine wp_region_held_drew (S := fun w' => w'.cell? ⟨W.heap.size, 0, none⟩ = some (.bool n) ∧ w'.cell? ⟨W.heap.size, 1, none⟩ = some (.int .u64 h) ∧ w'.cell? ⟨W.heap.size, 2, none⟩ = some (.int .u64 l) ∧ w'.cell? ⟨W.heap.size, 3, none⟩ = some (.int .i64 E) ∧ w'.cell? ⟨W.heap.size, 4, none⟩ = some (.bool m) ∧ w'.cell? ⟨W.heap.size, 5, none⟩ = some (.int .i64 w) ∧ w'.cell? ⟨W.heap.size, 6, none⟩ = some (.int .i64 f) ∧ w'.cell? ⟨W.heap.size, 7, none⟩ = some (.int .i64 L) ∧ w'.cell? ⟨W.heap.size, 8, none⟩ = some (.int .i64 M)) (by kernel_rfl) ?_ (fun hHeld => ?_)
  · (try dsimp only)
    exact unhide HA
  refine lst0 12 (by kernel_rfl) ?_
  refine tkA 0 18 1 ?_
  refine tkA 1 19 3 ?_
  refine tkA 3 21 11 ?_
  refine tkA 4 22 27 ?_
  refine tkA 5 23 59 ?_
  refine tkA 7 25 187 ?_
  refine tkA 8 26 443 ?_
  refine tkA 9 27 955 ?_
  refine rdA 2 959 (fun Kk hKk => ?_)
  go_simp
  refine (unhide HT _).mono ?_
  rintro _ w2 ⟨rfl, hbl⟩
  have HB := hide (bthen (unhide HB) hbl)
  have HA := hide ((unhide HA).below hbl)
  clear hbl
  (try go_wp2_with fail)
  refine hKk.out _ _ ?_ (fun hHeld => ?_)
  · (try dsimp only)
    exact unhide HA
  clear hKk Kk
  (try simp only [List.setIfInBounds_toArray, List.set_cons_zero, List.set_cons_succ])
  refine tkA 6 24 1023 ?_
  refine tkA 10 28 2047 ?_
  refine tkA 11 3 4095 ?_
  refine wpAnyH_done (by kernel_rfl) ?_ _
  clear hHeld
  obtain ⟨a0, a1, a2, a3, a4, a5, a6, a7, a8⟩ := unhide HA
  go_wp2_with fail
  clear a0 a1 a2 a3 a4 a5 a6 a7 a8
  refine (unhide HH _).mono ?_
  rintro _ w3 ⟨rfl, hbl⟩
  have HB := hide (bthen (unhide HB) hbl)
  have HA := hide ((unhide HA).below hbl)
  clear hbl
  obtain ⟨a0, a1, a2, a3, a4, a5, a6, a7, a8⟩ := unhide HA
  go_wp2_with fail
  refine (unhide HF _).mono ?_
  rintro _ w4 ⟨rfl, hbl⟩
  have HB := hide (bthen (unhide HB) hbl)
  clear hbl
  go_wp2_with fail
  go_ret
  exact ⟨rfl, unhide HB⟩

set_option maxRecDepth 100000 in
set_option maxHeartbeats 4000000 in
theorem nearest_do {h l E w f L M V T Nn s hb0 ob : Int} {n m : Bool} (W : World) (HN : Ct 265 #[.agg #[.bool n, .int .u64 h, .int .u64 l, .int .i64 E, .bool m]] (.bool false)) (HT : Ct 266 #[.agg #[.bool n, .int .u64 h, .int .u64 l, .int .i64 E, .bool m]] (.int .i64 T)) (kt : IntKind.i64.wrap (T - f) = T - f) (xm : ¬ T - f < L)
    (kN : Nn / 2 = s) (ka : bits .and .u64 Nn 1 = hb0) (kh : (hb0 == 1) = true) (ks : bits .and .u64 s 1 = ob) (ko : (ob == 1) = true) (kw : IntKind.u64.wrap (s + 1) = s + 1)
    (HH : Ct 267 #[.agg #[.bool n, .int .u64 h, .int .u64 l, .int .i64 E, .bool m], .int .i64 (T - f)] (.tuple #[.int .u64 Nn, .bool false])) (HF : Ct 268 #[.agg #[.bool n, .int .u64 h, .int .u64 l, .int .i64 E, .bool m, .int .i64 w, .int .i64 f, .int .i64 L, .int .i64 M], .int .u64 (s + 1), .int .i64 (T - f)] (.int .u64 V)) :
    Calls Tryz.prog 238 #[.agg #[.bool n, .int .u64 h, .int .u64 l, .int .i64 E, .bool m, .int .i64 w, .int .i64 f, .int .i64 L, .int .i64 M]] W fun r W' => r = .returned (.int .u64 V) ∧ Below W.heap.size W W' := by
  go_enter Tryz.func238, Tryz.ntmps238
  go_wp2_with fail
  refine (unhide HN _).mono ?_
  rintro _ w1 ⟨rfl, hb⟩
  have HA := hide ((at9_new W _ _ _ _ _ _ _ _ _ 202).below hb)
  have HB := hide (bthen (below1 _ _) hb)
  clear hb
  go_wp2_with fail
  have HB := hide (unhide HB).drew
  have HA := hide ((unhide HA).below ((Below.refl _ _).drew))
  refine wp_region_held_drew (S := fun w' => w'.cell? ⟨W.heap.size, 0, none⟩ = some (.bool n) ∧ w'.cell? ⟨W.heap.size, 1, none⟩ = some (.int .u64 h) ∧ w'.cell? ⟨W.heap.size, 2, none⟩ = some (.int .u64 l) ∧ w'.cell? ⟨W.heap.size, 3, none⟩ = some (.int .i64 E) ∧ w'.cell? ⟨W.heap.size, 4, none⟩ = some (.bool m) ∧ w'.cell? ⟨W.heap.size, 5, none⟩ = some (.int .i64 w) ∧ w'.cell? ⟨W.heap.size, 6, none⟩ = some (.int .i64 f) ∧ w'.cell? ⟨W.heap.size, 7, none⟩ = some (.int .i64 L) ∧ w'.cell? ⟨W.heap.size, 8, none⟩ = some (.int .i64 M)) (by kernel_rfl) ?_ (fun hHeld => ?_)
  · (try dsimp only)
    exact unhide HA
  refine lst0 12 (by kernel_rfl) ?_
  refine tkA 0 18 1 ?_
  refine tkA 1 19 3 ?_
  refine tkA 3 21 11 ?_
  refine tkA 4 22 27 ?_
  refine tkA 5 23 59 ?_
  refine tkA 7 25 187 ?_
  refine tkA 8 26 443 ?_
  refine tkA 9 27 955 ?_
  refine rdA 2 959 (fun Kk hKk => ?_)
  go_simp
  refine (unhide HT _).mono ?_
  rintro _ w2 ⟨rfl, hbl⟩
  have HB := hide (bthen (unhide HB) hbl)
  have HA := hide ((unhide HA).below hbl)
  clear hbl
  (try go_wp2_with fail)
  refine hKk.out _ _ ?_ (fun hHeld => ?_)
  · (try dsimp only)
    exact unhide HA
  clear hKk Kk
  (try simp only [List.setIfInBounds_toArray, List.set_cons_zero, List.set_cons_succ])
  refine tkA 6 24 1023 ?_
  refine tkA 10 28 2047 ?_
  refine tkA 11 3 4095 ?_
  refine wpAnyH_done (by kernel_rfl) ?_ _
  clear hHeld
  obtain ⟨a0, a1, a2, a3, a4, a5, a6, a7, a8⟩ := unhide HA
  go_wp2_with fail
  clear a0 a1 a2 a3 a4 a5 a6 a7 a8
  refine (unhide HH _).mono ?_
  rintro _ w3 ⟨rfl, hbl⟩
  have HB := hide (bthen (unhide HB) hbl)
  have HA := hide ((unhide HA).below hbl)
  clear hbl
  obtain ⟨a0, a1, a2, a3, a4, a5, a6, a7, a8⟩ := unhide HA
  go_wp2_with fail
  refine (unhide HF _).mono ?_
  rintro _ w4 ⟨rfl, hbl⟩
  have HB := hide (bthen (unhide HB) hbl)
  clear hbl
  go_wp2_with fail
  go_ret
  exact ⟨rfl, unhide HB⟩

set_option maxRecDepth 100000 in
set_option maxHeartbeats 4000000 in
theorem nearest_de {h l E w f L M V T Nn s hb0 ob : Int} {n m : Bool} (W : World) (HN : Ct 265 #[.agg #[.bool n, .int .u64 h, .int .u64 l, .int .i64 E, .bool m]] (.bool false)) (HT : Ct 266 #[.agg #[.bool n, .int .u64 h, .int .u64 l, .int .i64 E, .bool m]] (.int .i64 T)) (kt : IntKind.i64.wrap (T - f) = T - f) (xm : ¬ T - f < L)
    (kN : Nn / 2 = s) (ka : bits .and .u64 Nn 1 = hb0) (kh : (hb0 == 1) = true) (ks : bits .and .u64 s 1 = ob) (ko : (ob == 1) = false)
    (HH : Ct 267 #[.agg #[.bool n, .int .u64 h, .int .u64 l, .int .i64 E, .bool m], .int .i64 (T - f)] (.tuple #[.int .u64 Nn, .bool false])) (HF : Ct 268 #[.agg #[.bool n, .int .u64 h, .int .u64 l, .int .i64 E, .bool m, .int .i64 w, .int .i64 f, .int .i64 L, .int .i64 M], .int .u64 s, .int .i64 (T - f)] (.int .u64 V)) :
    Calls Tryz.prog 238 #[.agg #[.bool n, .int .u64 h, .int .u64 l, .int .i64 E, .bool m, .int .i64 w, .int .i64 f, .int .i64 L, .int .i64 M]] W fun r W' => r = .returned (.int .u64 V) ∧ Below W.heap.size W W' := by
  go_enter Tryz.func238, Tryz.ntmps238
  go_wp2_with fail
  refine (unhide HN _).mono ?_
  rintro _ w1 ⟨rfl, hb⟩
  have HA := hide ((at9_new W _ _ _ _ _ _ _ _ _ 202).below hb)
  have HB := hide (bthen (below1 _ _) hb)
  clear hb
  go_wp2_with fail
  have HB := hide (unhide HB).drew
  have HA := hide ((unhide HA).below ((Below.refl _ _).drew))
  refine wp_region_held_drew (S := fun w' => w'.cell? ⟨W.heap.size, 0, none⟩ = some (.bool n) ∧ w'.cell? ⟨W.heap.size, 1, none⟩ = some (.int .u64 h) ∧ w'.cell? ⟨W.heap.size, 2, none⟩ = some (.int .u64 l) ∧ w'.cell? ⟨W.heap.size, 3, none⟩ = some (.int .i64 E) ∧ w'.cell? ⟨W.heap.size, 4, none⟩ = some (.bool m) ∧ w'.cell? ⟨W.heap.size, 5, none⟩ = some (.int .i64 w) ∧ w'.cell? ⟨W.heap.size, 6, none⟩ = some (.int .i64 f) ∧ w'.cell? ⟨W.heap.size, 7, none⟩ = some (.int .i64 L) ∧ w'.cell? ⟨W.heap.size, 8, none⟩ = some (.int .i64 M)) (by kernel_rfl) ?_ (fun hHeld => ?_)
  · (try dsimp only)
    exact unhide HA
  refine lst0 12 (by kernel_rfl) ?_
  refine tkA 0 18 1 ?_
  refine tkA 1 19 3 ?_
  refine tkA 3 21 11 ?_
  refine tkA 4 22 27 ?_
  refine tkA 5 23 59 ?_
  refine tkA 7 25 187 ?_
  refine tkA 8 26 443 ?_
  refine tkA 9 27 955 ?_
  refine rdA 2 959 (fun Kk hKk => ?_)
  go_simp
  refine (unhide HT _).mono ?_
  rintro _ w2 ⟨rfl, hbl⟩
  have HB := hide (bthen (unhide HB) hbl)
  have HA := hide ((unhide HA).below hbl)
  clear hbl
  (try go_wp2_with fail)
  refine hKk.out _ _ ?_ (fun hHeld => ?_)
  · (try dsimp only)
    exact unhide HA
  clear hKk Kk
  (try simp only [List.setIfInBounds_toArray, List.set_cons_zero, List.set_cons_succ])
  refine tkA 6 24 1023 ?_
  refine tkA 10 28 2047 ?_
  refine tkA 11 3 4095 ?_
  refine wpAnyH_done (by kernel_rfl) ?_ _
  clear hHeld
  obtain ⟨a0, a1, a2, a3, a4, a5, a6, a7, a8⟩ := unhide HA
  go_wp2_with fail
  clear a0 a1 a2 a3 a4 a5 a6 a7 a8
  refine (unhide HH _).mono ?_
  rintro _ w3 ⟨rfl, hbl⟩
  have HB := hide (bthen (unhide HB) hbl)
  have HA := hide ((unhide HA).below hbl)
  clear hbl
  obtain ⟨a0, a1, a2, a3, a4, a5, a6, a7, a8⟩ := unhide HA
  go_wp2_with fail
  refine (unhide HF _).mono ?_
  rintro _ w4 ⟨rfl, hbl⟩
  have HB := hide (bthen (unhide HB) hbl)
  clear hbl
  go_wp2_with fail
  go_ret
  exact ⟨rfl, unhide HB⟩

set_option maxRecDepth 100000 in
set_option maxHeartbeats 4000000 in
theorem nearest_ln {h l E w f L M V T Nn s hb0 : Int} {n m lost : Bool} (W : World) (HN : Ct 265 #[.agg #[.bool n, .int .u64 h, .int .u64 l, .int .i64 E, .bool m]] (.bool false)) (HT : Ct 266 #[.agg #[.bool n, .int .u64 h, .int .u64 l, .int .i64 E, .bool m]] (.int .i64 T)) (kt : IntKind.i64.wrap (T - f) = T - f) (xm : T - f < L)
    (kN : Nn / 2 = s) (ka : bits .and .u64 Nn 1 = hb0) (kh : (hb0 == 1) = false)
    (HH : Ct 267 #[.agg #[.bool n, .int .u64 h, .int .u64 l, .int .i64 E, .bool m], .int .i64 L] (.tuple #[.int .u64 Nn, .bool lost])) (HF : Ct 268 #[.agg #[.bool n, .int .u64 h, .int .u64 l, .int .i64 E, .bool m, .int .i64 w, .int .i64 f, .int .i64 L, .int .i64 M], .int .u64 s, .int .i64 L] (.int .u64 V)) :
    Calls Tryz.prog 238 #[.agg #[.bool n, .int .u64 h, .int .u64 l, .int .i64 E, .bool m, .int .i64 w, .int .i64 f, .int .i64 L, .int .i64 M]] W fun r W' => r = .returned (.int .u64 V) ∧ Below W.heap.size W W' := by
  go_enter Tryz.func238, Tryz.ntmps238
  go_wp2_with fail
  refine (unhide HN _).mono ?_
  rintro _ w1 ⟨rfl, hb⟩
  have HA := hide ((at9_new W _ _ _ _ _ _ _ _ _ 202).below hb)
  have HB := hide (bthen (below1 _ _) hb)
  clear hb
  go_wp2_with fail
  have HB := hide (unhide HB).drew
  have HA := hide ((unhide HA).below ((Below.refl _ _).drew))
  refine wp_region_held_drew (S := fun w' => w'.cell? ⟨W.heap.size, 0, none⟩ = some (.bool n) ∧ w'.cell? ⟨W.heap.size, 1, none⟩ = some (.int .u64 h) ∧ w'.cell? ⟨W.heap.size, 2, none⟩ = some (.int .u64 l) ∧ w'.cell? ⟨W.heap.size, 3, none⟩ = some (.int .i64 E) ∧ w'.cell? ⟨W.heap.size, 4, none⟩ = some (.bool m) ∧ w'.cell? ⟨W.heap.size, 5, none⟩ = some (.int .i64 w) ∧ w'.cell? ⟨W.heap.size, 6, none⟩ = some (.int .i64 f) ∧ w'.cell? ⟨W.heap.size, 7, none⟩ = some (.int .i64 L) ∧ w'.cell? ⟨W.heap.size, 8, none⟩ = some (.int .i64 M)) (by kernel_rfl) ?_ (fun hHeld => ?_)
  · (try dsimp only)
    exact unhide HA
  refine lst0 12 (by kernel_rfl) ?_
  refine tkA 0 18 1 ?_
  refine tkA 1 19 3 ?_
  refine tkA 3 21 11 ?_
  refine tkA 4 22 27 ?_
  refine tkA 5 23 59 ?_
  refine tkA 7 25 187 ?_
  refine tkA 8 26 443 ?_
  refine tkA 9 27 955 ?_
  refine rdA 2 959 (fun Kk hKk => ?_)
  go_simp
  refine (unhide HT _).mono ?_
  rintro _ w2 ⟨rfl, hbl⟩
  have HB := hide (bthen (unhide HB) hbl)
  have HA := hide ((unhide HA).below hbl)
  clear hbl
  (try go_wp2_with fail)
  refine hKk.out _ _ ?_ (fun hHeld => ?_)
  · (try dsimp only)
    exact unhide HA
  clear hKk Kk
  (try simp only [List.setIfInBounds_toArray, List.set_cons_zero, List.set_cons_succ])
  refine tkA 6 24 1023 ?_
  refine tkA 10 28 2047 ?_
  refine tkA 11 3 4095 ?_
  refine wpAnyH_done (by kernel_rfl) ?_ _
  clear hHeld
  obtain ⟨a0, a1, a2, a3, a4, a5, a6, a7, a8⟩ := unhide HA
  go_wp2_with fail
  clear a0 a1 a2 a3 a4 a5 a6 a7 a8
  refine (unhide HH _).mono ?_
  rintro _ w3 ⟨rfl, hbl⟩
  have HB := hide (bthen (unhide HB) hbl)
  have HA := hide ((unhide HA).below hbl)
  clear hbl
  obtain ⟨a0, a1, a2, a3, a4, a5, a6, a7, a8⟩ := unhide HA
  go_wp2_with fail
  refine (unhide HF _).mono ?_
  rintro _ w4 ⟨rfl, hbl⟩
  have HB := hide (bthen (unhide HB) hbl)
  clear hbl
  go_wp2_with fail
  go_ret
  exact ⟨rfl, unhide HB⟩

set_option maxRecDepth 100000 in
set_option maxHeartbeats 4000000 in
theorem nearest_lu {h l E w f L M V T Nn s hb0 : Int} {n m : Bool} (W : World) (HN : Ct 265 #[.agg #[.bool n, .int .u64 h, .int .u64 l, .int .i64 E, .bool m]] (.bool false)) (HT : Ct 266 #[.agg #[.bool n, .int .u64 h, .int .u64 l, .int .i64 E, .bool m]] (.int .i64 T)) (kt : IntKind.i64.wrap (T - f) = T - f) (xm : T - f < L)
    (kN : Nn / 2 = s) (ka : bits .and .u64 Nn 1 = hb0) (kh : (hb0 == 1) = true) (kw : IntKind.u64.wrap (s + 1) = s + 1)
    (HH : Ct 267 #[.agg #[.bool n, .int .u64 h, .int .u64 l, .int .i64 E, .bool m], .int .i64 L] (.tuple #[.int .u64 Nn, .bool true])) (HF : Ct 268 #[.agg #[.bool n, .int .u64 h, .int .u64 l, .int .i64 E, .bool m, .int .i64 w, .int .i64 f, .int .i64 L, .int .i64 M], .int .u64 (s + 1), .int .i64 L] (.int .u64 V)) :
    Calls Tryz.prog 238 #[.agg #[.bool n, .int .u64 h, .int .u64 l, .int .i64 E, .bool m, .int .i64 w, .int .i64 f, .int .i64 L, .int .i64 M]] W fun r W' => r = .returned (.int .u64 V) ∧ Below W.heap.size W W' := by
  go_enter Tryz.func238, Tryz.ntmps238
  go_wp2_with fail
  refine (unhide HN _).mono ?_
  rintro _ w1 ⟨rfl, hb⟩
  have HA := hide ((at9_new W _ _ _ _ _ _ _ _ _ 202).below hb)
  have HB := hide (bthen (below1 _ _) hb)
  clear hb
  go_wp2_with fail
  have HB := hide (unhide HB).drew
  have HA := hide ((unhide HA).below ((Below.refl _ _).drew))
  refine wp_region_held_drew (S := fun w' => w'.cell? ⟨W.heap.size, 0, none⟩ = some (.bool n) ∧ w'.cell? ⟨W.heap.size, 1, none⟩ = some (.int .u64 h) ∧ w'.cell? ⟨W.heap.size, 2, none⟩ = some (.int .u64 l) ∧ w'.cell? ⟨W.heap.size, 3, none⟩ = some (.int .i64 E) ∧ w'.cell? ⟨W.heap.size, 4, none⟩ = some (.bool m) ∧ w'.cell? ⟨W.heap.size, 5, none⟩ = some (.int .i64 w) ∧ w'.cell? ⟨W.heap.size, 6, none⟩ = some (.int .i64 f) ∧ w'.cell? ⟨W.heap.size, 7, none⟩ = some (.int .i64 L) ∧ w'.cell? ⟨W.heap.size, 8, none⟩ = some (.int .i64 M)) (by kernel_rfl) ?_ (fun hHeld => ?_)
  · (try dsimp only)
    exact unhide HA
  refine lst0 12 (by kernel_rfl) ?_
  refine tkA 0 18 1 ?_
  refine tkA 1 19 3 ?_
  refine tkA 3 21 11 ?_
  refine tkA 4 22 27 ?_
  refine tkA 5 23 59 ?_
  refine tkA 7 25 187 ?_
  refine tkA 8 26 443 ?_
  refine tkA 9 27 955 ?_
  refine rdA 2 959 (fun Kk hKk => ?_)
  go_simp
  refine (unhide HT _).mono ?_
  rintro _ w2 ⟨rfl, hbl⟩
  have HB := hide (bthen (unhide HB) hbl)
  have HA := hide ((unhide HA).below hbl)
  clear hbl
  (try go_wp2_with fail)
  refine hKk.out _ _ ?_ (fun hHeld => ?_)
  · (try dsimp only)
    exact unhide HA
  clear hKk Kk
  (try simp only [List.setIfInBounds_toArray, List.set_cons_zero, List.set_cons_succ])
  refine tkA 6 24 1023 ?_
  refine tkA 10 28 2047 ?_
  refine tkA 11 3 4095 ?_
  refine wpAnyH_done (by kernel_rfl) ?_ _
  clear hHeld
  obtain ⟨a0, a1, a2, a3, a4, a5, a6, a7, a8⟩ := unhide HA
  go_wp2_with fail
  clear a0 a1 a2 a3 a4 a5 a6 a7 a8
  refine (unhide HH _).mono ?_
  rintro _ w3 ⟨rfl, hbl⟩
  have HB := hide (bthen (unhide HB) hbl)
  have HA := hide ((unhide HA).below hbl)
  clear hbl
  obtain ⟨a0, a1, a2, a3, a4, a5, a6, a7, a8⟩ := unhide HA
  go_wp2_with fail
  refine (unhide HF _).mono ?_
  rintro _ w4 ⟨rfl, hbl⟩
  have HB := hide (bthen (unhide HB) hbl)
  clear hbl
  go_wp2_with fail
  go_ret
  exact ⟨rfl, unhide HB⟩

set_option maxRecDepth 100000 in
set_option maxHeartbeats 4000000 in
theorem nearest_lo {h l E w f L M V T Nn s hb0 ob : Int} {n m : Bool} (W : World) (HN : Ct 265 #[.agg #[.bool n, .int .u64 h, .int .u64 l, .int .i64 E, .bool m]] (.bool false)) (HT : Ct 266 #[.agg #[.bool n, .int .u64 h, .int .u64 l, .int .i64 E, .bool m]] (.int .i64 T)) (kt : IntKind.i64.wrap (T - f) = T - f) (xm : T - f < L)
    (kN : Nn / 2 = s) (ka : bits .and .u64 Nn 1 = hb0) (kh : (hb0 == 1) = true) (ks : bits .and .u64 s 1 = ob) (ko : (ob == 1) = true) (kw : IntKind.u64.wrap (s + 1) = s + 1)
    (HH : Ct 267 #[.agg #[.bool n, .int .u64 h, .int .u64 l, .int .i64 E, .bool m], .int .i64 L] (.tuple #[.int .u64 Nn, .bool false])) (HF : Ct 268 #[.agg #[.bool n, .int .u64 h, .int .u64 l, .int .i64 E, .bool m, .int .i64 w, .int .i64 f, .int .i64 L, .int .i64 M], .int .u64 (s + 1), .int .i64 L] (.int .u64 V)) :
    Calls Tryz.prog 238 #[.agg #[.bool n, .int .u64 h, .int .u64 l, .int .i64 E, .bool m, .int .i64 w, .int .i64 f, .int .i64 L, .int .i64 M]] W fun r W' => r = .returned (.int .u64 V) ∧ Below W.heap.size W W' := by
  go_enter Tryz.func238, Tryz.ntmps238
  go_wp2_with fail
  refine (unhide HN _).mono ?_
  rintro _ w1 ⟨rfl, hb⟩
  have HA := hide ((at9_new W _ _ _ _ _ _ _ _ _ 202).below hb)
  have HB := hide (bthen (below1 _ _) hb)
  clear hb
  go_wp2_with fail
  have HB := hide (unhide HB).drew
  have HA := hide ((unhide HA).below ((Below.refl _ _).drew))
  refine wp_region_held_drew (S := fun w' => w'.cell? ⟨W.heap.size, 0, none⟩ = some (.bool n) ∧ w'.cell? ⟨W.heap.size, 1, none⟩ = some (.int .u64 h) ∧ w'.cell? ⟨W.heap.size, 2, none⟩ = some (.int .u64 l) ∧ w'.cell? ⟨W.heap.size, 3, none⟩ = some (.int .i64 E) ∧ w'.cell? ⟨W.heap.size, 4, none⟩ = some (.bool m) ∧ w'.cell? ⟨W.heap.size, 5, none⟩ = some (.int .i64 w) ∧ w'.cell? ⟨W.heap.size, 6, none⟩ = some (.int .i64 f) ∧ w'.cell? ⟨W.heap.size, 7, none⟩ = some (.int .i64 L) ∧ w'.cell? ⟨W.heap.size, 8, none⟩ = some (.int .i64 M)) (by kernel_rfl) ?_ (fun hHeld => ?_)
  · (try dsimp only)
    exact unhide HA
  refine lst0 12 (by kernel_rfl) ?_
  refine tkA 0 18 1 ?_
  refine tkA 1 19 3 ?_
  refine tkA 3 21 11 ?_
  refine tkA 4 22 27 ?_
  refine tkA 5 23 59 ?_
  refine tkA 7 25 187 ?_
  refine tkA 8 26 443 ?_
  refine tkA 9 27 955 ?_
  refine rdA 2 959 (fun Kk hKk => ?_)
  go_simp
  refine (unhide HT _).mono ?_
  rintro _ w2 ⟨rfl, hbl⟩
  have HB := hide (bthen (unhide HB) hbl)
  have HA := hide ((unhide HA).below hbl)
  clear hbl
  (try go_wp2_with fail)
  refine hKk.out _ _ ?_ (fun hHeld => ?_)
  · (try dsimp only)
    exact unhide HA
  clear hKk Kk
  (try simp only [List.setIfInBounds_toArray, List.set_cons_zero, List.set_cons_succ])
  refine tkA 6 24 1023 ?_
  refine tkA 10 28 2047 ?_
  refine tkA 11 3 4095 ?_
  refine wpAnyH_done (by kernel_rfl) ?_ _
  clear hHeld
  obtain ⟨a0, a1, a2, a3, a4, a5, a6, a7, a8⟩ := unhide HA
  go_wp2_with fail
  clear a0 a1 a2 a3 a4 a5 a6 a7 a8
  refine (unhide HH _).mono ?_
  rintro _ w3 ⟨rfl, hbl⟩
  have HB := hide (bthen (unhide HB) hbl)
  have HA := hide ((unhide HA).below hbl)
  clear hbl
  obtain ⟨a0, a1, a2, a3, a4, a5, a6, a7, a8⟩ := unhide HA
  go_wp2_with fail
  refine (unhide HF _).mono ?_
  rintro _ w4 ⟨rfl, hbl⟩
  have HB := hide (bthen (unhide HB) hbl)
  clear hbl
  go_wp2_with fail
  go_ret
  exact ⟨rfl, unhide HB⟩

set_option maxRecDepth 100000 in
set_option maxHeartbeats 4000000 in
theorem nearest_le {h l E w f L M V T Nn s hb0 ob : Int} {n m : Bool} (W : World) (HN : Ct 265 #[.agg #[.bool n, .int .u64 h, .int .u64 l, .int .i64 E, .bool m]] (.bool false)) (HT : Ct 266 #[.agg #[.bool n, .int .u64 h, .int .u64 l, .int .i64 E, .bool m]] (.int .i64 T)) (kt : IntKind.i64.wrap (T - f) = T - f) (xm : T - f < L)
    (kN : Nn / 2 = s) (ka : bits .and .u64 Nn 1 = hb0) (kh : (hb0 == 1) = true) (ks : bits .and .u64 s 1 = ob) (ko : (ob == 1) = false)
    (HH : Ct 267 #[.agg #[.bool n, .int .u64 h, .int .u64 l, .int .i64 E, .bool m], .int .i64 L] (.tuple #[.int .u64 Nn, .bool false])) (HF : Ct 268 #[.agg #[.bool n, .int .u64 h, .int .u64 l, .int .i64 E, .bool m, .int .i64 w, .int .i64 f, .int .i64 L, .int .i64 M], .int .u64 s, .int .i64 L] (.int .u64 V)) :
    Calls Tryz.prog 238 #[.agg #[.bool n, .int .u64 h, .int .u64 l, .int .i64 E, .bool m, .int .i64 w, .int .i64 f, .int .i64 L, .int .i64 M]] W fun r W' => r = .returned (.int .u64 V) ∧ Below W.heap.size W W' := by
  go_enter Tryz.func238, Tryz.ntmps238
  go_wp2_with fail
  refine (unhide HN _).mono ?_
  rintro _ w1 ⟨rfl, hb⟩
  have HA := hide ((at9_new W _ _ _ _ _ _ _ _ _ 202).below hb)
  have HB := hide (bthen (below1 _ _) hb)
  clear hb
  go_wp2_with fail
  have HB := hide (unhide HB).drew
  have HA := hide ((unhide HA).below ((Below.refl _ _).drew))
  refine wp_region_held_drew (S := fun w' => w'.cell? ⟨W.heap.size, 0, none⟩ = some (.bool n) ∧ w'.cell? ⟨W.heap.size, 1, none⟩ = some (.int .u64 h) ∧ w'.cell? ⟨W.heap.size, 2, none⟩ = some (.int .u64 l) ∧ w'.cell? ⟨W.heap.size, 3, none⟩ = some (.int .i64 E) ∧ w'.cell? ⟨W.heap.size, 4, none⟩ = some (.bool m) ∧ w'.cell? ⟨W.heap.size, 5, none⟩ = some (.int .i64 w) ∧ w'.cell? ⟨W.heap.size, 6, none⟩ = some (.int .i64 f) ∧ w'.cell? ⟨W.heap.size, 7, none⟩ = some (.int .i64 L) ∧ w'.cell? ⟨W.heap.size, 8, none⟩ = some (.int .i64 M)) (by kernel_rfl) ?_ (fun hHeld => ?_)
  · (try dsimp only)
    exact unhide HA
  refine lst0 12 (by kernel_rfl) ?_
  refine tkA 0 18 1 ?_
  refine tkA 1 19 3 ?_
  refine tkA 3 21 11 ?_
  refine tkA 4 22 27 ?_
  refine tkA 5 23 59 ?_
  refine tkA 7 25 187 ?_
  refine tkA 8 26 443 ?_
  refine tkA 9 27 955 ?_
  refine rdA 2 959 (fun Kk hKk => ?_)
  go_simp
  refine (unhide HT _).mono ?_
  rintro _ w2 ⟨rfl, hbl⟩
  have HB := hide (bthen (unhide HB) hbl)
  have HA := hide ((unhide HA).below hbl)
  clear hbl
  (try go_wp2_with fail)
  refine hKk.out _ _ ?_ (fun hHeld => ?_)
  · (try dsimp only)
    exact unhide HA
  clear hKk Kk
  (try simp only [List.setIfInBounds_toArray, List.set_cons_zero, List.set_cons_succ])
  refine tkA 6 24 1023 ?_
  refine tkA 10 28 2047 ?_
  refine tkA 11 3 4095 ?_
  refine wpAnyH_done (by kernel_rfl) ?_ _
  clear hHeld
  obtain ⟨a0, a1, a2, a3, a4, a5, a6, a7, a8⟩ := unhide HA
  go_wp2_with fail
  clear a0 a1 a2 a3 a4 a5 a6 a7 a8
  refine (unhide HH _).mono ?_
  rintro _ w3 ⟨rfl, hbl⟩
  have HB := hide (bthen (unhide HB) hbl)
  have HA := hide ((unhide HA).below hbl)
  clear hbl
  obtain ⟨a0, a1, a2, a3, a4, a5, a6, a7, a8⟩ := unhide HA
  go_wp2_with fail
  refine (unhide HF _).mono ?_
  rintro _ w4 ⟨rfl, hbl⟩
  have HB := hide (bthen (unhide HB) hbl)
  clear hbl
  go_wp2_with fail
  go_ret
  exact ⟨rfl, unhide HB⟩


end Go.Proofs.YtpbgpdmffejdgaaGreatDoor
