/- SumA, Nearest. -/
import Derived.Test.YtmbkpmcmhmldgaaDoorB01
import Derived.Test.YtmbkpmcmhmldgaaDoorB24
namespace Go.Proofs.YtmbkpmcmhmldgaaDoor

/-- The number of the float of a code. -/
def fval (f L c : Nat) : Nat := if c < 2 ^ (f + 1) then c * 2 ^ L else (2 ^ f + c % 2 ^ f) * 2 ^ (c / 2 ^ f - 1 + L)

theorem fval_norm (f L s k : Nat) (h1 : s < 2 ^ (f + 1)) (hk : L ≤ k) (h2 : L < k → 2 ^ f ≤ s) : fval f L ((k - L) * 2 ^ f + s) = s * 2 ^ k := by
  have e2 : 2 ^ (f + 1) = 2 ^ f + 2 ^ f := by rw [Nat.pow_succ]; omega
  have hp := Nat.two_pow_pos f
  by_cases hL : L < k
  · have h3 := h2 hL
    obtain ⟨r, rfl⟩ := Nat.exists_eq_add_of_le h3
    obtain ⟨j, rfl⟩ : ∃ j, k = L + (j + 1) := ⟨k - L - 1, by omega⟩
    rw [show L + (j + 1) - L = j + 1 by omega]
    have hc : (j + 1) * 2 ^ f + (2 ^ f + r) = 2 ^ f * (j + 2) + r := by
      rw [show (j + 1) * 2 ^ f = 2 ^ f * (j + 1) by rw [Nat.mul_comm], show j + 2 = j + 1 + 1 by omega, Nat.mul_add (2 ^ f) (j + 1) 1]
      omega
    have hlt : r < 2 ^ f := by omega
    rw [hc]
    unfold fval
    rw [if_neg (by
      have := Nat.mul_le_mul_left (2 ^ f) (show 2 ≤ j + 2 by omega)
      omega)]
    rw [Nat.mul_add_mod, Nat.mod_eq_of_lt hlt, Nat.mul_add_div hp, Nat.div_eq_of_lt hlt, show j + 2 + 0 - 1 + L = L + (j + 1) by omega]
  · have : k = L := by omega
    subst this
    rw [Nat.sub_self, Nat.zero_mul, Nat.zero_add]
    unfold fval
    rw [if_pos h1]
theorem fval_ex (f L c : Nat) : ∃ s k, c = (k - L) * 2 ^ f + s ∧ s < 2 ^ (f + 1) ∧ L ≤ k ∧ (L < k → 2 ^ f ≤ s) ∧ fval f L c = s * 2 ^ k := by
  have e2 : 2 ^ (f + 1) = 2 ^ f + 2 ^ f := by rw [Nat.pow_succ]; omega
  have hp := Nat.two_pow_pos f
  by_cases h : c < 2 ^ (f + 1)
  · refine ⟨c, L, by rw [Nat.sub_self, Nat.zero_mul, Nat.zero_add], h, Nat.le_refl _, fun h => absurd h (Nat.lt_irrefl _), ?_⟩
    unfold fval
    rw [if_pos h]
  · have hd := Nat.div_add_mod c (2 ^ f)
    have hm := Nat.mod_lt c hp
    have h2 : 2 ≤ c / 2 ^ f := (Nat.le_div_iff_mul_le hp).2 (by omega)
    refine ⟨2 ^ f + c % 2 ^ f, c / 2 ^ f - 1 + L, ?_, by omega, by omega, fun _ => by omega, ?_⟩
    · rw [show c / 2 ^ f - 1 + L - L = c / 2 ^ f - 1 by omega, Nat.sub_mul, Nat.mul_comm (c / 2 ^ f) (2 ^ f)]
      have := Nat.mul_le_mul_left (2 ^ f) h2
      omega
    · unfold fval
      rw [if_neg h]
theorem fval_code (f L c : Nat) : code f L (fval f L c) = c := by
  obtain ⟨s, k, h0, h1, h2, h3, h4⟩ := fval_ex f L c
  rw [h4, code_exact f L s k h1 h2 h3]
  exact h0.symm
theorem fval_zero (f L : Nat) : fval f L 0 = 0 := by
  unfold fval
  rw [if_pos (Nat.two_pow_pos _), Nat.zero_mul]
/-- A number of no more bits than a float, above its least place, is a float's. -/
theorem rep (f L s : Nat) : ∀ j, s < 2 ^ (f + 1) → ∃ c, s * 2 ^ (L + j) = fval f L c
  | 0, h => ⟨s, by unfold fval; rw [if_pos h, Nat.add_zero]⟩
  | j + 1, h => by
    by_cases h2 : 2 ^ f ≤ s
    · exact ⟨_, (fval_norm f L s (L + (j + 1)) h (by omega) (fun _ => h2)).symm⟩
    · have e2 : 2 ^ (f + 1) = 2 ^ f + 2 ^ f := by rw [Nat.pow_succ]; omega
      obtain ⟨c, hc⟩ := rep f L (s * 2) j (by omega)
      refine ⟨c, ?_⟩
      rw [← hc, Nat.mul_assoc, show L + (j + 1) = L + j + 1 by omega, Nat.pow_succ, Nat.mul_comm (2 ^ (L + j)) 2]
theorem rep_k {f L s k : Nat} (h : s < 2 ^ (f + 1)) (hk : L ≤ k) : ∃ c, s * 2 ^ k = fval f L c := by
  obtain ⟨j, rfl⟩ := Nat.exists_eq_add_of_le hk
  exact rep f L s j h

end Go.Proofs.YtmbkpmcmhmldgaaDoor
namespace Go.Proofs.YtmbkpmcmhmldgaaDoor
open Go.RowKit

set_option maxRecDepth 100000 in
set_option maxHeartbeats 4000000 in
theorem nearest_z {h l E w f L M V : Int} {n m : Bool} (W : World) (HN : Ct 49 #[.agg #[.bool n, .int .u64 h, .int .u64 l, .int .i64 E, .bool m]] (.bool true)) (HC : Ct 50 #[.int .i64 w, .bool n] (.int .u64 V)) :
    Calls Tryd.prog 47 #[.agg #[.bool n, .int .u64 h, .int .u64 l, .int .i64 E, .bool m, .int .i64 w, .int .i64 f, .int .i64 L, .int .i64 M]] W fun r W' => r = .returned (.int .u64 V) ∧ Below W.heap.size W W' := by
  go_enter Tryd.func47, Tryd.ntmps47
  go_wp2_with fail
  refine (unhide HN _).mono ?_
  rintro _ w1 ⟨rfl, hb⟩
  have HA := hide ((at9_new W _ _ _ _ _ _ _ _ _ 79).below hb)
  have HB := hide (bthen (below1 _ _) hb)
  clear hb
  obtain ⟨a0, a1, a2, a3, a4, a5, a6, a7, a8⟩ := unhide HA
  go_wp2_with fail
  refine (unhide HC _).mono ?_
  rintro _ w2 ⟨rfl, hb⟩
  have HB := hide (bthen (unhide HB) hb)
  clear hb
  go_wp2_with fail
  go_ret
  exact ⟨rfl, unhide HB⟩
set_option maxRecDepth 100000 in
set_option maxHeartbeats 4000000 in
theorem nearest_dn {h l E w f L M V T Nn s hb0 : Int} {n m lost : Bool} (W : World) (HN : Ct 49 #[.agg #[.bool n, .int .u64 h, .int .u64 l, .int .i64 E, .bool m]] (.bool false)) (HT : Ct 51 #[.agg #[.bool n, .int .u64 h, .int .u64 l, .int .i64 E, .bool m]] (.int .i64 T)) (kt : IntKind.i64.wrap (T - f) = T - f) (xm : ¬ T - f < L)
    (kN : Nn / 2 = s) (ka : bits .and .u64 Nn 1 = hb0) (kh : (hb0 == 1) = false)
    (HH : Ct 52 #[.agg #[.bool n, .int .u64 h, .int .u64 l, .int .i64 E, .bool m], .int .i64 (T - f)] (.tuple #[.int .u64 Nn, .bool lost])) (HF : Ct 53 #[.agg #[.bool n, .int .u64 h, .int .u64 l, .int .i64 E, .bool m, .int .i64 w, .int .i64 f, .int .i64 L, .int .i64 M], .int .u64 s, .int .i64 (T - f)] (.int .u64 V)) :
    Calls Tryd.prog 47 #[.agg #[.bool n, .int .u64 h, .int .u64 l, .int .i64 E, .bool m, .int .i64 w, .int .i64 f, .int .i64 L, .int .i64 M]] W fun r W' => r = .returned (.int .u64 V) ∧ Below W.heap.size W W' := by
  go_enter Tryd.func47, Tryd.ntmps47
  go_wp2_with fail
  refine (unhide HN _).mono ?_
  rintro _ w1 ⟨rfl, hb⟩
  have HA := hide ((at9_new W _ _ _ _ _ _ _ _ _ 79).below hb)
  have HB := hide (bthen (below1 _ _) hb)
  clear hb
  go_wp2_with fail
  have HB := hide (unhide HB).drew
  have HA := hide ((unhide HA).below ((Below.refl _ _).drew))
  refine wp_region_held_drew (S := fun w' => w'.cell? ⟨W.heap.size, 0, none⟩ = some (.bool n) ∧ w'.cell? ⟨W.heap.size, 1, none⟩ = some (.int .u64 h) ∧ w'.cell? ⟨W.heap.size, 2, none⟩ = some (.int .u64 l) ∧ w'.cell? ⟨W.heap.size, 3, none⟩ = some (.int .i64 E) ∧ w'.cell? ⟨W.heap.size, 4, none⟩ = some (.bool m) ∧ w'.cell? ⟨W.heap.size, 5, none⟩ = some (.int .i64 w) ∧ w'.cell? ⟨W.heap.size, 6, none⟩ = some (.int .i64 f) ∧ w'.cell? ⟨W.heap.size, 7, none⟩ = some (.int .i64 L) ∧ w'.cell? ⟨W.heap.size, 8, none⟩ = some (.int .i64 M)) (by kernel_rfl) ?_ (fun hHeld => ?_)
  · (try dsimp only)
    exact unhide HA
  refine lst0 12 (by kernel_rfl) ?_
  refine tkA 0 18 1 ?_
  refine tkA 1 19 3 ?_
  refine tkA 3 21 11 ?_
  refine tkA 4 22 27 ?_
  refine tkA 5 23 59 ?_
  refine tkA 7 25 187 ?_
  refine tkA 8 26 443 ?_
  refine tkA 9 27 955 ?_
  refine rdA 2 959 (fun Kk hKk => ?_)
  go_simp
  refine (unhide HT _).mono ?_
  rintro _ w2 ⟨rfl, hbl⟩
  have HB := hide (bthen (unhide HB) hbl)
  have HA := hide ((unhide HA).below hbl)
  clear hbl
  (try go_wp2_with fail)
  refine hKk.out _ _ ?_ (fun hHeld => ?_)
  · (try dsimp only)
    exact unhide HA
  clear hKk Kk
  (try simp only [List.setIfInBounds_toArray, List.set_cons_zero, List.set_cons_succ])
  refine tkA 6 24 1023 ?_
  refine tkA 10 28 2047 ?_
  refine tkA 11 3 4095 ?_
  refine wpAnyH_done (by kernel_rfl) ?_ _
  clear hHeld
  obtain ⟨a0, a1, a2, a3, a4, a5, a6, a7, a8⟩ := unhide HA
  go_wp2_with fail
  clear a0 a1 a2 a3 a4 a5 a6 a7 a8
  refine (unhide HH _).mono ?_
  rintro _ w3 ⟨rfl, hbl⟩
  have HB := hide (bthen (unhide HB) hbl)
  have HA := hide ((unhide HA).below hbl)
  clear hbl
  obtain ⟨a0, a1, a2, a3, a4, a5, a6, a7, a8⟩ := unhide HA
  go_wp2_with fail
  refine (unhide HF _).mono ?_
  rintro _ w4 ⟨rfl, hbl⟩
  have HB := hide (bthen (unhide HB) hbl)
  clear hbl
  go_wp2_with fail
  go_ret
  exact ⟨rfl, unhide HB⟩

set_option maxRecDepth 100000 in
set_option maxHeartbeats 4000000 in
theorem nearest_du {h l E w f L M V T Nn s hb0 : Int} {n m : Bool} (W : World) (HN : Ct 49 #[.agg #[.bool n, .int .u64 h, .int .u64 l, .int .i64 E, .bool m]] (.bool false)) (HT : Ct 51 #[.agg #[.bool n, .int .u64 h, .int .u64 l, .int .i64 E, .bool m]] (.int .i64 T)) (kt : IntKind.i64.wrap (T - f) = T - f) (xm : ¬ T - f < L)
    (kN : Nn / 2 = s) (ka : bits .and .u64 Nn 1 = hb0) (kh : (hb0 == 1) = true) (kw : IntKind.u64.wrap (s + 1) = s + 1)
    (HH : Ct 52 #[.agg #[.bool n, .int .u64 h, .int .u64 l, .int .i64 E, .bool m], .int .i64 (T - f)] (.tuple #[.int .u64 Nn, .bool true])) (HF : Ct 53 #[.agg #[.bool n, .int .u64 h, .int .u64 l, .int .i64 E, .bool m, .int .i64 w, .int .i64 f, .int .i64 L, .int .i64 M], .int .u64 (s + 1), .int .i64 (T - f)] (.int .u64 V)) :
    Calls Tryd.prog 47 #[.agg #[.bool n, .int .u64 h, .int .u64 l, .int .i64 E, .bool m, .int .i64 w, .int .i64 f, .int .i64 L, .int .i64 M]] W fun r W' => r = .returned (.int .u64 V) ∧ Below W.heap.size W W' := by
  go_enter Tryd.func47, Tryd.ntmps47
  go_wp2_with fail
  refine (unhide HN _).mono ?_
  rintro _ w1 ⟨rfl, hb⟩
  have HA := hide ((at9_new W _ _ _ _ _ _ _ _ _ 79).below hb)
  have HB := hide (bthen (below1 _ _) hb)
  clear hb
  go_wp2_with fail
  have HB := hide (unhide HB).drew
  have HA := hide ((unhide HA).below ((Below.refl _ _).drew))
  refine wp_region_held_drew (S := fun w' => w'.cell? ⟨W.heap.size, 0, none⟩ = some (.bool n) ∧ w'.cell? ⟨W.heap.size, 1, none⟩ = some (.int .u64 h) ∧ w'.cell? ⟨W.heap.size, 2, none⟩ = some (.int .u64 l) ∧ w'.cell? ⟨W.heap.size, 3, none⟩ = some (.int .i64 E) ∧ w'.cell? ⟨W.heap.size, 4, none⟩ = some (.bool m) ∧ w'.cell? ⟨W.heap.size, 5, none⟩ = some (.int .i64 w) ∧ w'.cell? ⟨W.heap.size, 6, none⟩ = some (.int .i64 f) ∧ w'.cell? ⟨W.heap.size, 7, none⟩ = some (.int .i64 L) ∧ w'.cell? ⟨W.heap.size, 8, none⟩ = some (.int .i64 M)) (by kernel_rfl) ?_ (fun hHeld => ?_)
  · (try dsimp only)
    exact unhide HA
  refine lst0 12 (by kernel_rfl) ?_
  refine tkA 0 18 1 ?_
  refine tkA 1 19 3 ?_
  refine tkA 3 21 11 ?_
  refine tkA 4 22 27 ?_
  refine tkA 5 23 59 ?_
  refine tkA 7 25 187 ?_
  refine tkA 8 26 443 ?_
  refine tkA 9 27 955 ?_
  refine rdA 2 959 (fun Kk hKk => ?_)
  go_simp
  refine (unhide HT _).mono ?_
  rintro _ w2 ⟨rfl, hbl⟩
  have HB := hide (bthen (unhide HB) hbl)
  have HA := hide ((unhide HA).below hbl)
  clear hbl
  (try go_wp2_with fail)
  refine hKk.out _ _ ?_ (fun hHeld => ?_)
  · (try dsimp only)
    exact unhide HA
  clear hKk Kk
  (try simp only [List.setIfInBounds_toArray, List.set_cons_zero, List.set_cons_succ])
  refine tkA 6 24 1023 ?_
  refine tkA 10 28 2047 ?_
  refine tkA 11 3 4095 ?_
  refine wpAnyH_done (by kernel_rfl) ?_ _
  clear hHeld
  obtain ⟨a0, a1, a2, a3, a4, a5, a6, a7, a8⟩ := unhide HA
  go_wp2_with fail
  clear a0 a1 a2 a3 a4 a5 a6 a7 a8
  refine (unhide HH _).mono ?_
  rintro _ w3 ⟨rfl, hbl⟩
  have HB := hide (bthen (unhide HB) hbl)
  have HA := hide ((unhide HA).below hbl)
  clear hbl
  obtain ⟨a0, a1, a2, a3, a4, a5, a6, a7, a8⟩ := unhide HA
  go_wp2_with fail
  refine (unhide HF _).mono ?_
  rintro _ w4 ⟨rfl, hbl⟩
  have HB := hide (bthen (unhide HB) hbl)
  clear hbl
  go_wp2_with fail
  go_ret
  exact ⟨rfl, unhide HB⟩

set_option maxRecDepth 100000 in
set_option maxHeartbeats 4000000 in
theorem nearest_do {h l E w f L M V T Nn s hb0 ob : Int} {n m : Bool} (W : World) (HN : Ct 49 #[.agg #[.bool n, .int .u64 h, .int .u64 l, .int .i64 E, .bool m]] (.bool false)) (HT : Ct 51 #[.agg #[.bool n, .int .u64 h, .int .u64 l, .int .i64 E, .bool m]] (.int .i64 T)) (kt : IntKind.i64.wrap (T - f) = T - f) (xm : ¬ T - f < L)
    (kN : Nn / 2 = s) (ka : bits .and .u64 Nn 1 = hb0) (kh : (hb0 == 1) = true) (ks : bits .and .u64 s 1 = ob) (ko : (ob == 1) = true) (kw : IntKind.u64.wrap (s + 1) = s + 1)
    (HH : Ct 52 #[.agg #[.bool n, .int .u64 h, .int .u64 l, .int .i64 E, .bool m], .int .i64 (T - f)] (.tuple #[.int .u64 Nn, .bool false])) (HF : Ct 53 #[.agg #[.bool n, .int .u64 h, .int .u64 l, .int .i64 E, .bool m, .int .i64 w, .int .i64 f, .int .i64 L, .int .i64 M], .int .u64 (s + 1), .int .i64 (T - f)] (.int .u64 V)) :
    Calls Tryd.prog 47 #[.agg #[.bool n, .int .u64 h, .int .u64 l, .int .i64 E, .bool m, .int .i64 w, .int .i64 f, .int .i64 L, .int .i64 M]] W fun r W' => r = .returned (.int .u64 V) ∧ Below W.heap.size W W' := by
  go_enter Tryd.func47, Tryd.ntmps47
  go_wp2_with fail
  refine (unhide HN _).mono ?_
  rintro _ w1 ⟨rfl, hb⟩
  have HA := hide ((at9_new W _ _ _ _ _ _ _ _ _ 79).below hb)
  have HB := hide (bthen (below1 _ _) hb)
  clear hb
  go_wp2_with fail
  have HB := hide (unhide HB).drew
  have HA := hide ((unhide HA).below ((Below.refl _ _).drew))
  refine wp_region_held_drew (S := fun w' => w'.cell? ⟨W.heap.size, 0, none⟩ = some (.bool n) ∧ w'.cell? ⟨W.heap.size, 1, none⟩ = some (.int .u64 h) ∧ w'.cell? ⟨W.heap.size, 2, none⟩ = some (.int .u64 l) ∧ w'.cell? ⟨W.heap.size, 3, none⟩ = some (.int .i64 E) ∧ w'.cell? ⟨W.heap.size, 4, none⟩ = some (.bool m) ∧ w'.cell? ⟨W.heap.size, 5, none⟩ = some (.int .i64 w) ∧ w'.cell? ⟨W.heap.size, 6, none⟩ = some (.int .i64 f) ∧ w'.cell? ⟨W.heap.size, 7, none⟩ = some (.int .i64 L) ∧ w'.cell? ⟨W.heap.size, 8, none⟩ = some (.int .i64 M)) (by kernel_rfl) ?_ (fun hHeld => ?_)
  · (try dsimp only)
    exact unhide HA
  refine lst0 12 (by kernel_rfl) ?_
  refine tkA 0 18 1 ?_
  refine tkA 1 19 3 ?_
  refine tkA 3 21 11 ?_
  refine tkA 4 22 27 ?_
  refine tkA 5 23 59 ?_
  refine tkA 7 25 187 ?_
  refine tkA 8 26 443 ?_
  refine tkA 9 27 955 ?_
  refine rdA 2 959 (fun Kk hKk => ?_)
  go_simp
  refine (unhide HT _).mono ?_
  rintro _ w2 ⟨rfl, hbl⟩
  have HB := hide (bthen (unhide HB) hbl)
  have HA := hide ((unhide HA).below hbl)
  clear hbl
  (try go_wp2_with fail)
  refine hKk.out _ _ ?_ (fun hHeld => ?_)
  · (try dsimp only)
    exact unhide HA
  clear hKk Kk
  (try simp only [List.setIfInBounds_toArray, List.set_cons_zero, List.set_cons_succ])
  refine tkA 6 24 1023 ?_
  refine tkA 10 28 2047 ?_
  refine tkA 11 3 4095 ?_
  refine wpAnyH_done (by kernel_rfl) ?_ _
  clear hHeld
  obtain ⟨a0, a1, a2, a3, a4, a5, a6, a7, a8⟩ := unhide HA
  go_wp2_with fail
  clear a0 a1 a2 a3 a4 a5 a6 a7 a8
  refine (unhide HH _).mono ?_
  rintro _ w3 ⟨rfl, hbl⟩
  have HB := hide (bthen (unhide HB) hbl)
  have HA := hide ((unhide HA).below hbl)
  clear hbl
  obtain ⟨a0, a1, a2, a3, a4, a5, a6, a7, a8⟩ := unhide HA
  go_wp2_with fail
  refine (unhide HF _).mono ?_
  rintro _ w4 ⟨rfl, hbl⟩
  have HB := hide (bthen (unhide HB) hbl)
  clear hbl
  go_wp2_with fail
  go_ret
  exact ⟨rfl, unhide HB⟩

set_option maxRecDepth 100000 in
set_option maxHeartbeats 4000000 in
theorem nearest_de {h l E w f L M V T Nn s hb0 ob : Int} {n m : Bool} (W : World) (HN : Ct 49 #[.agg #[.bool n, .int .u64 h, .int .u64 l, .int .i64 E, .bool m]] (.bool false)) (HT : Ct 51 #[.agg #[.bool n, .int .u64 h, .int .u64 l, .int .i64 E, .bool m]] (.int .i64 T)) (kt : IntKind.i64.wrap (T - f) = T - f) (xm : ¬ T - f < L)
    (kN : Nn / 2 = s) (ka : bits .and .u64 Nn 1 = hb0) (kh : (hb0 == 1) = true) (ks : bits .and .u64 s 1 = ob) (ko : (ob == 1) = false)
    (HH : Ct 52 #[.agg #[.bool n, .int .u64 h, .int .u64 l, .int .i64 E, .bool m], .int .i64 (T - f)] (.tuple #[.int .u64 Nn, .bool false])) (HF : Ct 53 #[.agg #[.bool n, .int .u64 h, .int .u64 l, .int .i64 E, .bool m, .int .i64 w, .int .i64 f, .int .i64 L, .int .i64 M], .int .u64 s, .int .i64 (T - f)] (.int .u64 V)) :
    Calls Tryd.prog 47 #[.agg #[.bool n, .int .u64 h, .int .u64 l, .int .i64 E, .bool m, .int .i64 w, .int .i64 f, .int .i64 L, .int .i64 M]] W fun r W' => r = .returned (.int .u64 V) ∧ Below W.heap.size W W' := by
  go_enter Tryd.func47, Tryd.ntmps47
  go_wp2_with fail
  refine (unhide HN _).mono ?_
  rintro _ w1 ⟨rfl, hb⟩
  have HA := hide ((at9_new W _ _ _ _ _ _ _ _ _ 79).below hb)
  have HB := hide (bthen (below1 _ _) hb)
  clear hb
  go_wp2_with fail
  have HB := hide (unhide HB).drew
  have HA := hide ((unhide HA).below ((Below.refl _ _).drew))
  refine wp_region_held_drew (S := fun w' => w'.cell? ⟨W.heap.size, 0, none⟩ = some (.bool n) ∧ w'.cell? ⟨W.heap.size, 1, none⟩ = some (.int .u64 h) ∧ w'.cell? ⟨W.heap.size, 2, none⟩ = some (.int .u64 l) ∧ w'.cell? ⟨W.heap.size, 3, none⟩ = some (.int .i64 E) ∧ w'.cell? ⟨W.heap.size, 4, none⟩ = some (.bool m) ∧ w'.cell? ⟨W.heap.size, 5, none⟩ = some (.int .i64 w) ∧ w'.cell? ⟨W.heap.size, 6, none⟩ = some (.int .i64 f) ∧ w'.cell? ⟨W.heap.size, 7, none⟩ = some (.int .i64 L) ∧ w'.cell? ⟨W.heap.size, 8, none⟩ = some (.int .i64 M)) (by kernel_rfl) ?_ (fun hHeld => ?_)
  · (try dsimp only)
    exact unhide HA
  refine lst0 12 (by kernel_rfl) ?_
  refine tkA 0 18 1 ?_
  refine tkA 1 19 3 ?_
  refine tkA 3 21 11 ?_
  refine tkA 4 22 27 ?_
  refine tkA 5 23 59 ?_
  refine tkA 7 25 187 ?_
  refine tkA 8 26 443 ?_
  refine tkA 9 27 955 ?_
  refine rdA 2 959 (fun Kk hKk => ?_)
  go_simp
  refine (unhide HT _).mono ?_
  rintro _ w2 ⟨rfl, hbl⟩
  have HB := hide (bthen (unhide HB) hbl)
  have HA := hide ((unhide HA).below hbl)
  clear hbl
  (try go_wp2_with fail)
  refine hKk.out _ _ ?_ (fun hHeld => ?_)
  · (try dsimp only)
    exact unhide HA
  clear hKk Kk
  (try simp only [List.setIfInBounds_toArray, List.set_cons_zero, List.set_cons_succ])
  refine tkA 6 24 1023 ?_
  refine tkA 10 28 2047 ?_
  refine tkA 11 3 4095 ?_
  refine wpAnyH_done (by kernel_rfl) ?_ _
  clear hHeld
  obtain ⟨a0, a1, a2, a3, a4, a5, a6, a7, a8⟩ := unhide HA
  go_wp2_with fail
  clear a0 a1 a2 a3 a4 a5 a6 a7 a8
  refine (unhide HH _).mono ?_
  rintro _ w3 ⟨rfl, hbl⟩
  have HB := hide (bthen (unhide HB) hbl)
  have HA := hide ((unhide HA).below hbl)
  clear hbl
  obtain ⟨a0, a1, a2, a3, a4, a5, a6, a7, a8⟩ := unhide HA
  go_wp2_with fail
  refine (unhide HF _).mono ?_
  rintro _ w4 ⟨rfl, hbl⟩
  have HB := hide (bthen (unhide HB) hbl)
  clear hbl
  go_wp2_with fail
  go_ret
  exact ⟨rfl, unhide HB⟩

set_option maxRecDepth 100000 in
set_option maxHeartbeats 4000000 in
theorem nearest_ln {h l E w f L M V T Nn s hb0 : Int} {n m lost : Bool} (W : World) (HN : Ct 49 #[.agg #[.bool n, .int .u64 h, .int .u64 l, .int .i64 E, .bool m]] (.bool false)) (HT : Ct 51 #[.agg #[.bool n, .int .u64 h, .int .u64 l, .int .i64 E, .bool m]] (.int .i64 T)) (kt : IntKind.i64.wrap (T - f) = T - f) (xm : T - f < L)
    (kN : Nn / 2 = s) (ka : bits .and .u64 Nn 1 = hb0) (kh : (hb0 == 1) = false)
    (HH : Ct 52 #[.agg #[.bool n, .int .u64 h, .int .u64 l, .int .i64 E, .bool m], .int .i64 L] (.tuple #[.int .u64 Nn, .bool lost])) (HF : Ct 53 #[.agg #[.bool n, .int .u64 h, .int .u64 l, .int .i64 E, .bool m, .int .i64 w, .int .i64 f, .int .i64 L, .int .i64 M], .int .u64 s, .int .i64 L] (.int .u64 V)) :
    Calls Tryd.prog 47 #[.agg #[.bool n, .int .u64 h, .int .u64 l, .int .i64 E, .bool m, .int .i64 w, .int .i64 f, .int .i64 L, .int .i64 M]] W fun r W' => r = .returned (.int .u64 V) ∧ Below W.heap.size W W' := by
  go_enter Tryd.func47, Tryd.ntmps47
  go_wp2_with fail
  refine (unhide HN _).mono ?_
  rintro _ w1 ⟨rfl, hb⟩
  have HA := hide ((at9_new W _ _ _ _ _ _ _ _ _ 79).below hb)
  have HB := hide (bthen (below1 _ _) hb)
  clear hb
  go_wp2_with fail
  have HB := hide (unhide HB).drew
  have HA := hide ((unhide HA).below ((Below.refl _ _).drew))
  refine wp_region_held_drew (S := fun w' => w'.cell? ⟨W.heap.size, 0, none⟩ = some (.bool n) ∧ w'.cell? ⟨W.heap.size, 1, none⟩ = some (.int .u64 h) ∧ w'.cell? ⟨W.heap.size, 2, none⟩ = some (.int .u64 l) ∧ w'.cell? ⟨W.heap.size, 3, none⟩ = some (.int .i64 E) ∧ w'.cell? ⟨W.heap.size, 4, none⟩ = some (.bool m) ∧ w'.cell? ⟨W.heap.size, 5, none⟩ = some (.int .i64 w) ∧ w'.cell? ⟨W.heap.size, 6, none⟩ = some (.int .i64 f) ∧ w'.cell? ⟨W.heap.size, 7, none⟩ = some (.int .i64 L) ∧ w'.cell? ⟨W.heap.size, 8, none⟩ = some (.int .i64 M)) (by kernel_rfl) ?_ (fun hHeld => ?_)
  · (try dsimp only)
    exact unhide HA
  refine lst0 12 (by kernel_rfl) ?_
  refine tkA 0 18 1 ?_
  refine tkA 1 19 3 ?_
  refine tkA 3 21 11 ?_
  refine tkA 4 22 27 ?_
  refine tkA 5 23 59 ?_
  refine tkA 7 25 187 ?_
  refine tkA 8 26 443 ?_
  refine tkA 9 27 955 ?_
  refine rdA 2 959 (fun Kk hKk => ?_)
  go_simp
  refine (unhide HT _).mono ?_
  rintro _ w2 ⟨rfl, hbl⟩
  have HB := hide (bthen (unhide HB) hbl)
  have HA := hide ((unhide HA).below hbl)
  clear hbl
  (try go_wp2_with fail)
  refine hKk.out _ _ ?_ (fun hHeld => ?_)
  · (try dsimp only)
    exact unhide HA
  clear hKk Kk
  (try simp only [List.setIfInBounds_toArray, List.set_cons_zero, List.set_cons_succ])
  refine tkA 6 24 1023 ?_
  refine tkA 10 28 2047 ?_
  refine tkA 11 3 4095 ?_
  refine wpAnyH_done (by kernel_rfl) ?_ _
  clear hHeld
  obtain ⟨a0, a1, a2, a3, a4, a5, a6, a7, a8⟩ := unhide HA
  go_wp2_with fail
  clear a0 a1 a2 a3 a4 a5 a6 a7 a8
  refine (unhide HH _).mono ?_
  rintro _ w3 ⟨rfl, hbl⟩
  have HB := hide (bthen (unhide HB) hbl)
  have HA := hide ((unhide HA).below hbl)
  clear hbl
  obtain ⟨a0, a1, a2, a3, a4, a5, a6, a7, a8⟩ := unhide HA
  go_wp2_with fail
  refine (unhide HF _).mono ?_
  rintro _ w4 ⟨rfl, hbl⟩
  have HB := hide (bthen (unhide HB) hbl)
  clear hbl
  go_wp2_with fail
  go_ret
  exact ⟨rfl, unhide HB⟩

set_option maxRecDepth 100000 in
set_option maxHeartbeats 4000000 in
theorem nearest_lu {h l E w f L M V T Nn s hb0 : Int} {n m : Bool} (W : World) (HN : Ct 49 #[.agg #[.bool n, .int .u64 h, .int .u64 l, .int .i64 E, .bool m]] (.bool false)) (HT : Ct 51 #[.agg #[.bool n, .int .u64 h, .int .u64 l, .int .i64 E, .bool m]] (.int .i64 T)) (kt : IntKind.i64.wrap (T - f) = T - f) (xm : T - f < L)
    (kN : Nn / 2 = s) (ka : bits .and .u64 Nn 1 = hb0) (kh : (hb0 == 1) = true) (kw : IntKind.u64.wrap (s + 1) = s + 1)
    (HH : Ct 52 #[.agg #[.bool n, .int .u64 h, .int .u64 l, .int .i64 E, .bool m], .int .i64 L] (.tuple #[.int .u64 Nn, .bool true])) (HF : Ct 53 #[.agg #[.bool n, .int .u64 h, .int .u64 l, .int .i64 E, .bool m, .int .i64 w, .int .i64 f, .int .i64 L, .int .i64 M], .int .u64 (s + 1), .int .i64 L] (.int .u64 V)) :
    Calls Tryd.prog 47 #[.agg #[.bool n, .int .u64 h, .int .u64 l, .int .i64 E, .bool m, .int .i64 w, .int .i64 f, .int .i64 L, .int .i64 M]] W fun r W' => r = .returned (.int .u64 V) ∧ Below W.heap.size W W' := by
  go_enter Tryd.func47, Tryd.ntmps47
  go_wp2_with fail
  refine (unhide HN _).mono ?_
  rintro _ w1 ⟨rfl, hb⟩
  have HA := hide ((at9_new W _ _ _ _ _ _ _ _ _ 79).below hb)
  have HB := hide (bthen (below1 _ _) hb)
  clear hb
  go_wp2_with fail
  have HB := hide (unhide HB).drew
  have HA := hide ((unhide HA).below ((Below.refl _ _).drew))
  refine wp_region_held_drew (S := fun w' => w'.cell? ⟨W.heap.size, 0, none⟩ = some (.bool n) ∧ w'.cell? ⟨W.heap.size, 1, none⟩ = some (.int .u64 h) ∧ w'.cell? ⟨W.heap.size, 2, none⟩ = some (.int .u64 l) ∧ w'.cell? ⟨W.heap.size, 3, none⟩ = some (.int .i64 E) ∧ w'.cell? ⟨W.heap.size, 4, none⟩ = some (.bool m) ∧ w'.cell? ⟨W.heap.size, 5, none⟩ = some (.int .i64 w) ∧ w'.cell? ⟨W.heap.size, 6, none⟩ = some (.int .i64 f) ∧ w'.cell? ⟨W.heap.size, 7, none⟩ = some (.int .i64 L) ∧ w'.cell? ⟨W.heap.size, 8, none⟩ = some (.int .i64 M)) (by kernel_rfl) ?_ (fun hHeld => ?_)
  · (try dsimp only)
    exact unhide HA
  refine lst0 12 (by kernel_rfl) ?_
  refine tkA 0 18 1 ?_
  refine tkA 1 19 3 ?_
  refine tkA 3 21 11 ?_
  refine tkA 4 22 27 ?_
  refine tkA 5 23 59 ?_
  refine tkA 7 25 187 ?_
  refine tkA 8 26 443 ?_
  refine tkA 9 27 955 ?_
  refine rdA 2 959 (fun Kk hKk => ?_)
  go_simp
  refine (unhide HT _).mono ?_
  rintro _ w2 ⟨rfl, hbl⟩
  have HB := hide (bthen (unhide HB) hbl)
  have HA := hide ((unhide HA).below hbl)
  clear hbl
  (try go_wp2_with fail)
  refine hKk.out _ _ ?_ (fun hHeld => ?_)
  · (try dsimp only)
    exact unhide HA
  clear hKk Kk
  (try simp only [List.setIfInBounds_toArray, List.set_cons_zero, List.set_cons_succ])
  refine tkA 6 24 1023 ?_
  refine tkA 10 28 2047 ?_
  refine tkA 11 3 4095 ?_
  refine wpAnyH_done (by kernel_rfl) ?_ _
  clear hHeld
  obtain ⟨a0, a1, a2, a3, a4, a5, a6, a7, a8⟩ := unhide HA
  go_wp2_with fail
  clear a0 a1 a2 a3 a4 a5 a6 a7 a8
  refine (unhide HH _).mono ?_
  rintro _ w3 ⟨rfl, hbl⟩
  have HB := hide (bthen (unhide HB) hbl)
  have HA := hide ((unhide HA).below hbl)
  clear hbl
  obtain ⟨a0, a1, a2, a3, a4, a5, a6, a7, a8⟩ := unhide HA
  go_wp2_with fail
  refine (unhide HF _).mono ?_
  rintro _ w4 ⟨rfl, hbl⟩
  have HB := hide (bthen (unhide HB) hbl)
  clear hbl
  go_wp2_with fail
  go_ret
  exact ⟨rfl, unhide HB⟩

set_option maxRecDepth 100000 in
set_option maxHeartbeats 4000000 in
theorem nearest_lo {h l E w f L M V T Nn s hb0 ob : Int} {n m : Bool} (W : World) (HN : Ct 49 #[.agg #[.bool n, .int .u64 h, .int .u64 l, .int .i64 E, .bool m]] (.bool false)) (HT : Ct 51 #[.agg #[.bool n, .int .u64 h, .int .u64 l, .int .i64 E, .bool m]] (.int .i64 T)) (kt : IntKind.i64.wrap (T - f) = T - f) (xm : T - f < L)
    (kN : Nn / 2 = s) (ka : bits .and .u64 Nn 1 = hb0) (kh : (hb0 == 1) = true) (ks : bits .and .u64 s 1 = ob) (ko : (ob == 1) = true) (kw : IntKind.u64.wrap (s + 1) = s + 1)
    (HH : Ct 52 #[.agg #[.bool n, .int .u64 h, .int .u64 l, .int .i64 E, .bool m], .int .i64 L] (.tuple #[.int .u64 Nn, .bool false])) (HF : Ct 53 #[.agg #[.bool n, .int .u64 h, .int .u64 l, .int .i64 E, .bool m, .int .i64 w, .int .i64 f, .int .i64 L, .int .i64 M], .int .u64 (s + 1), .int .i64 L] (.int .u64 V)) :
    Calls Tryd.prog 47 #[.agg #[.bool n, .int .u64 h, .int .u64 l, .int .i64 E, .bool m, .int .i64 w, .int .i64 f, .int .i64 L, .int .i64 M]] W fun r W' => r = .returned (.int .u64 V) ∧ Below W.heap.size W W' := by
  go_enter Tryd.func47, Tryd.ntmps47
  go_wp2_with fail
  refine (unhide HN _).mono ?_
  rintro _ w1 ⟨rfl, hb⟩
  have HA := hide ((at9_new W _ _ _ _ _ _ _ _ _ 79).below hb)
  have HB := hide (bthen (below1 _ _) hb)
  clear hb
  go_wp2_with fail
  have HB := hide (unhide HB).drew
  have HA := hide ((unhide HA).below ((Below.refl _ _).drew))
  refine wp_region_held_drew (S := fun w' => w'.cell? ⟨W.heap.size, 0, none⟩ = some (.bool n) ∧ w'.cell? ⟨W.heap.size, 1, none⟩ = some (.int .u64 h) ∧ w'.cell? ⟨W.heap.size, 2, none⟩ = some (.int .u64 l) ∧ w'.cell? ⟨W.heap.size, 3, none⟩ = some (.int .i64 E) ∧ w'.cell? ⟨W.heap.size, 4, none⟩ = some (.bool m) ∧ w'.cell? ⟨W.heap.size, 5, none⟩ = some (.int .i64 w) ∧ w'.cell? ⟨W.heap.size, 6, none⟩ = some (.int .i64 f) ∧ w'.cell? ⟨W.heap.size, 7, none⟩ = some (.int .i64 L) ∧ w'.cell? ⟨W.heap.size, 8, none⟩ = some (.int .i64 M)) (by kernel_rfl) ?_ (fun hHeld => ?_)
  · (try dsimp only)
    exact unhide HA
  refine lst0 12 (by kernel_rfl) ?_
  refine tkA 0 18 1 ?_
  refine tkA 1 19 3 ?_
  refine tkA 3 21 11 ?_
  refine tkA 4 22 27 ?_
  refine tkA 5 23 59 ?_
  refine tkA 7 25 187 ?_
  refine tkA 8 26 443 ?_
  refine tkA 9 27 955 ?_
  refine rdA 2 959 (fun Kk hKk => ?_)
  go_simp
  refine (unhide HT _).mono ?_
  rintro _ w2 ⟨rfl, hbl⟩
  have HB := hide (bthen (unhide HB) hbl)
  have HA := hide ((unhide HA).below hbl)
  clear hbl
  (try go_wp2_with fail)
  refine hKk.out _ _ ?_ (fun hHeld => ?_)
  · (try dsimp only)
    exact unhide HA
  clear hKk Kk
  (try simp only [List.setIfInBounds_toArray, List.set_cons_zero, List.set_cons_succ])
  refine tkA 6 24 1023 ?_
  refine tkA 10 28 2047 ?_
  refine tkA 11 3 4095 ?_
  refine wpAnyH_done (by kernel_rfl) ?_ _
  clear hHeld
  obtain ⟨a0, a1, a2, a3, a4, a5, a6, a7, a8⟩ := unhide HA
  go_wp2_with fail
  clear a0 a1 a2 a3 a4 a5 a6 a7 a8
  refine (unhide HH _).mono ?_
  rintro _ w3 ⟨rfl, hbl⟩
  have HB := hide (bthen (unhide HB) hbl)
  have HA := hide ((unhide HA).below hbl)
  clear hbl
  obtain ⟨a0, a1, a2, a3, a4, a5, a6, a7, a8⟩ := unhide HA
  go_wp2_with fail
  refine (unhide HF _).mono ?_
  rintro _ w4 ⟨rfl, hbl⟩
  have HB := hide (bthen (unhide HB) hbl)
  clear hbl
  go_wp2_with fail
  go_ret
  exact ⟨rfl, unhide HB⟩

set_option maxRecDepth 100000 in
set_option maxHeartbeats 4000000 in
theorem nearest_le {h l E w f L M V T Nn s hb0 ob : Int} {n m : Bool} (W : World) (HN : Ct 49 #[.agg #[.bool n, .int .u64 h, .int .u64 l, .int .i64 E, .bool m]] (.bool false)) (HT : Ct 51 #[.agg #[.bool n, .int .u64 h, .int .u64 l, .int .i64 E, .bool m]] (.int .i64 T)) (kt : IntKind.i64.wrap (T - f) = T - f) (xm : T - f < L)
    (kN : Nn / 2 = s) (ka : bits .and .u64 Nn 1 = hb0) (kh : (hb0 == 1) = true) (ks : bits .and .u64 s 1 = ob) (ko : (ob == 1) = false)
    (HH : Ct 52 #[.agg #[.bool n, .int .u64 h, .int .u64 l, .int .i64 E, .bool m], .int .i64 L] (.tuple #[.int .u64 Nn, .bool false])) (HF : Ct 53 #[.agg #[.bool n, .int .u64 h, .int .u64 l, .int .i64 E, .bool m, .int .i64 w, .int .i64 f, .int .i64 L, .int .i64 M], .int .u64 s, .int .i64 L] (.int .u64 V)) :
    Calls Tryd.prog 47 #[.agg #[.bool n, .int .u64 h, .int .u64 l, .int .i64 E, .bool m, .int .i64 w, .int .i64 f, .int .i64 L, .int .i64 M]] W fun r W' => r = .returned (.int .u64 V) ∧ Below W.heap.size W W' := by
  go_enter Tryd.func47, Tryd.ntmps47
  go_wp2_with fail
  refine (unhide HN _).mono ?_
  rintro _ w1 ⟨rfl, hb⟩
  have HA := hide ((at9_new W _ _ _ _ _ _ _ _ _ 79).below hb)
  have HB := hide (bthen (below1 _ _) hb)
  clear hb
  go_wp2_with fail
  have HB := hide (unhide HB).drew
  have HA := hide ((unhide HA).below ((Below.refl _ _).drew))
  refine wp_region_held_drew (S := fun w' => w'.cell? ⟨W.heap.size, 0, none⟩ = some (.bool n) ∧ w'.cell? ⟨W.heap.size, 1, none⟩ = some (.int .u64 h) ∧ w'.cell? ⟨W.heap.size, 2, none⟩ = some (.int .u64 l) ∧ w'.cell? ⟨W.heap.size, 3, none⟩ = some (.int .i64 E) ∧ w'.cell? ⟨W.heap.size, 4, none⟩ = some (.bool m) ∧ w'.cell? ⟨W.heap.size, 5, none⟩ = some (.int .i64 w) ∧ w'.cell? ⟨W.heap.size, 6, none⟩ = some (.int .i64 f) ∧ w'.cell? ⟨W.heap.size, 7, none⟩ = some (.int .i64 L) ∧ w'.cell? ⟨W.heap.size, 8, none⟩ = some (.int .i64 M)) (by kernel_rfl) ?_ (fun hHeld => ?_)
  · (try dsimp only)
    exact unhide HA
  refine lst0 12 (by kernel_rfl) ?_
  refine tkA 0 18 1 ?_
  refine tkA 1 19 3 ?_
  refine tkA 3 21 11 ?_
  refine tkA 4 22 27 ?_
  refine tkA 5 23 59 ?_
  refine tkA 7 25 187 ?_
  refine tkA 8 26 443 ?_
  refine tkA 9 27 955 ?_
  refine rdA 2 959 (fun Kk hKk => ?_)
  go_simp
  refine (unhide HT _).mono ?_
  rintro _ w2 ⟨rfl, hbl⟩
  have HB := hide (bthen (unhide HB) hbl)
  have HA := hide ((unhide HA).below hbl)
  clear hbl
  (try go_wp2_with fail)
  refine hKk.out _ _ ?_ (fun hHeld => ?_)
  · (try dsimp only)
    exact unhide HA
  clear hKk Kk
  (try simp only [List.setIfInBounds_toArray, List.set_cons_zero, List.set_cons_succ])
  refine tkA 6 24 1023 ?_
  refine tkA 10 28 2047 ?_
  refine tkA 11 3 4095 ?_
  refine wpAnyH_done (by kernel_rfl) ?_ _
  clear hHeld
  obtain ⟨a0, a1, a2, a3, a4, a5, a6, a7, a8⟩ := unhide HA
  go_wp2_with fail
  clear a0 a1 a2 a3 a4 a5 a6 a7 a8
  refine (unhide HH _).mono ?_
  rintro _ w3 ⟨rfl, hbl⟩
  have HB := hide (bthen (unhide HB) hbl)
  have HA := hide ((unhide HA).below hbl)
  clear hbl
  obtain ⟨a0, a1, a2, a3, a4, a5, a6, a7, a8⟩ := unhide HA
  go_wp2_with fail
  refine (unhide HF _).mono ?_
  rintro _ w4 ⟨rfl, hbl⟩
  have HB := hide (bthen (unhide HB) hbl)
  clear hbl
  go_wp2_with fail
  go_ret
  exact ⟨rfl, unhide HB⟩

end Go.Proofs.YtmbkpmcmhmldgaaDoor
