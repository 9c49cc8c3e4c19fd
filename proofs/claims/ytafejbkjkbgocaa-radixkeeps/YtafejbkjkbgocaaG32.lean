/- RadR. -/
import Derived.Test.YtafejbkjkbgocaaG01
import Derived.Test.YtafejbkjkbgocaaG20
import Derived.Test.YtafejbkjkbgocaaG25
import Derived.Test.YtafejbkjkbgocaaG26
import Derived.Test.YtafejbkjkbgocaaG27
import Derived.Test.YtafejbkjkbgocaaG29
namespace Go.Proofs.Ytafejbkjkbgocaa
open Go.RowKit
open Go.Proofs.Ytafejbkjkbgocaa.W

theorem u64_id {x : Int} (h1 : 0 ≤ x) (h2 : x < 18446744073709551616) : IntKind.u64.wrap x = x := by
  simp only [IntKind.wrap, IntKind.bits, IntKind.signed]
  simp
  omega
/-- Two numbers in variables. -/
structure OvSt (N M : Nat) (w : World) (sa sb : Value) (x y : Nat) (w' : World) : Prop where
  ca : w'.cell? ⟨N, 0, none⟩ = some sa
  cb : w'.cell? ⟨M, 0, none⟩ = some sb
  na : IsNat w' sa x
  nb : IsNat w' sb y
  bel : Below w.heap.size w w'
theorem OvSt.below {N M : Nat} {w : World} {sa sb : Value} {x y : Nat} {w' w'' : World} (h : OvSt N M w sa sb x y w') (hb : Below w'.heap.size w' w'') : OvSt N M w sa sb x y w'' :=
  { ca := keep1 hb (lt_of_cell h.ca) h.ca, cb := keep1 hb (lt_of_cell h.cb) h.cb, na := h.na.below hb, nb := h.nb.below hb, bel := bthen h.bel hb }

set_option maxRecDepth 100000 in
set_option maxHeartbeats 2000000 in
theorem over_hi {m k a e k' A : Int} (W : World) (m0 : 0 ≤ m) (m1 : m < 18446744073709551616) (a0 : 0 ≤ a) (a1 : a < 18446744073709551616) (k2 : IntKind.i64.wrap (2 * k) = k') (h : e < k') (kA : IntKind.i64.wrap (k' - e) = A) (A0 : 0 ≤ A) (A1 : A ≤ 10000) :
    Calls Try.prog 52 #[.int .u64 m, .int .i64 k, .int .u64 a, .int .i64 e] W fun r W' => r = .returned (.int .i64 (cmpN (m.toNat * m.toNat * 2 ^ A.toNat) (a.toNat))) ∧ Below W.heap.size W W' := by
  have kz : IntKind.i64.wrap 0 = 0 := by decide
  have HM : Hid (m.toNat < pw 2) := by unfold pw; exact (by omega : m.toNat < 18446744073709551616)
  have HPb : Hid (a.toNat < pw 2) := by unfold pw; exact (by omega : a.toNat < 18446744073709551616)
  have HPa : Hid (m.toNat * m.toNat < pw 4) := by
    have := Nat.mul_lt_mul'' (show m.toNat < 18446744073709551616 by omega) (show m.toNat < 18446744073709551616 by omega)
    unfold pw
    exact this
  go_enter Try.func52, Try.ntmps52
  go_wp2_with fail
  refine (refOf_any m _ m0 m1).mono ?_
  rintro _ w1 ⟨s1, rfl, hN, hbl⟩
  obtain ⟨a1', n1, c1, rfl⟩ := hN.slice
  have HB := hide hbl
  have H1 := hide hN
  clear hbl hN
  go_wp2_with fail
  refine (refOf_any m _ m0 m1).mono ?_
  rintro _ w2 ⟨s2, rfl, hN, hbl⟩
  obtain ⟨a2, n2, c2, rfl⟩ := hN.slice
  have HB := hide (bthen (unhide HB) hbl)
  have H1 := hide ((unhide H1).below hbl)
  have H2 := hide hN
  clear hbl hN
  go_wp2_with fail
  refine (refMul_any _ _ _ _ _ _ _ _ _ (unhide H1) (unhide H2) (Nat.le_trans ((unhide H1).short (unhide HM)) (by omega)) (Nat.le_trans ((unhide H2).short (unhide HM)) (by omega))).mono ?_
  rintro _ w3 ⟨s3, rfl, hN, hbl⟩
  obtain ⟨a3, n3, c3, rfl⟩ := hN.slice
  have HB := hide (balloc (bthen (unhide HB) hbl) (.cells #[.slice a3 n3 c3] 82))
  have H3 := hide (hN.below (below1 w3 (.cells #[.slice a3 n3 c3] 82)))
  have HC3 : Hid ((w3.alloc (.cells #[.slice a3 n3 c3] 82)).cell? ⟨w3.heap.size, 0, none⟩ = some (.slice a3 n3 c3)) := by apply hide; simp [go_sem]
  clear hbl hN H1 H2
  go_wp2_with fail
  refine (refOf_any a _ a0 a1).mono ?_
  rintro _ w4 ⟨s4, rfl, hN, hbl⟩
  obtain ⟨a4, n4, c4, rfl⟩ := hN.slice
  have HK : Hid (OvSt w3.heap.size w4.heap.size W (.slice a3 n3 c3) (.slice a4 n4 c4) (m.toNat * m.toNat) a.toNat (w4.alloc (.cells #[.slice a4 n4 c4] 82)).drew) := by
    have hb2 := bthen hbl ((below1 w4 (.cells #[.slice a4 n4 c4] 82)).drew)
    have hb3 := (below1 w4 (.cells #[.slice a4 n4 c4] 82)).drew
    exact { ca := keep1 hb2 (lt_of_cell (unhide HC3)) (unhide HC3), cb := by simp [go_sem], na := (unhide H3).below hb2, nb := hN.below hb3, bel := bthen (unhide HB) hb2 }
  clear hbl hN H3 HC3 HB
  go_wp2_with fail
  refine wp_region_held_drew (S := fun w' => w'.cell? ⟨w3.heap.size, 0, none⟩ = some (.slice a3 n3 c3) ∧ w'.cell? ⟨w4.heap.size, 0, none⟩ = some (.slice a4 n4 c4)) (by kernel_rfl) ?_ (fun hHeld => ?_)
  · (try dsimp only)
    exact ⟨(unhide HK).ca, (unhide HK).cb⟩
  refine lst0 13 (by kernel_rfl) ?_
  refine tkH 0 23 1 ?v0 rfl (by kernel_rfl) (by kernel_rfl) (fun _ _ _ h => h) (by assumption) (Or.inl ⟨by rfl, ?y0⟩) ?_
  case y0 => ((intro w hSw; (try dsimp only at hSw); go_simp) <;> with_reducible rfl)
  (try simp only [Act.put, List.setIfInBounds_toArray, List.set_cons_zero, List.set_cons_succ])
  refine tkH 1 24 3 ?v1 rfl (by kernel_rfl) (by kernel_rfl) (fun _ _ _ h => h) (by assumption) (Or.inl ⟨by rfl, ?y1⟩) ?_
  case y1 => ((intro w hSw; (try dsimp only at hSw); go_simp) <;> with_reducible rfl)
  (try simp only [Act.put, List.setIfInBounds_toArray, List.set_cons_zero, List.set_cons_succ])
  refine tkH 2 25 7 ?v2 rfl (by kernel_rfl) (by kernel_rfl) (fun _ _ _ h => h) (by assumption) (Or.inl ⟨by rfl, ?y2⟩) ?_
  case y2 => ((intro w hSw; (try dsimp only at hSw); go_simp) <;> with_reducible rfl)
  (try simp only [Act.put, List.setIfInBounds_toArray, List.set_cons_zero, List.set_cons_succ])
  refine tkH 3 26 15 ?v3 rfl (by kernel_rfl) (by kernel_rfl) (fun _ _ _ h => h) (by assumption) (Or.inl ⟨by rfl, ?y3⟩) ?_
  case y3 => ((intro w hSw; (try dsimp only at hSw); go_simp) <;> with_reducible rfl)
  (try simp only [Act.put, List.setIfInBounds_toArray, List.set_cons_zero, List.set_cons_succ])
  refine tkH 4 27 31 ?v4 rfl (by kernel_rfl) (by kernel_rfl) (fun _ _ _ h => h) (by assumption) (Or.inl ⟨by rfl, ?y4⟩) ?_
  case y4 => ((intro w hSw; (try dsimp only at hSw); go_simp) <;> with_reducible rfl)
  (try simp only [Act.put, List.setIfInBounds_toArray, List.set_cons_zero, List.set_cons_succ])
  refine tkH 6 29 95 ?v6 rfl (by kernel_rfl) (by kernel_rfl) (fun _ _ _ h => h) (by assumption) (Or.inl ⟨by rfl, ?y6⟩) ?_
  case y6 => ((intro w hSw; (try dsimp only at hSw); go_simp) <;> with_reducible rfl)
  (try simp only [Act.put, List.setIfInBounds_toArray, List.set_cons_zero, List.set_cons_succ])
  refine tkH 7 30 223 ?v7 rfl (by kernel_rfl) (by kernel_rfl) (fun _ _ _ h => h) (by assumption) (Or.inl ⟨by rfl, ?y7⟩) ?_
  case y7 => ((intro w hSw; (try dsimp only at hSw); go_simp) <;> with_reducible rfl)
  (try simp only [Act.put, List.setIfInBounds_toArray, List.set_cons_zero, List.set_cons_succ])
  refine tkH 8 31 479 ?v8 rfl (by kernel_rfl) (by kernel_rfl) (fun _ _ _ h => h) (by assumption) (Or.inl ⟨by rfl, ?y8⟩) ?_
  case y8 => ((intro w hSw; (try dsimp only at hSw); go_simp) <;> with_reducible rfl)
  (try simp only [Act.put, List.setIfInBounds_toArray, List.set_cons_zero, List.set_cons_succ])
  refine tkH 9 32 991 ?v9 rfl (by kernel_rfl) (by kernel_rfl) (fun _ _ _ h => h) (by assumption) (Or.inl ⟨by rfl, ?y9⟩) ?_
  case y9 => ((intro w hSw; (try dsimp only at hSw); go_simp) <;> with_reducible rfl)
  (try simp only [Act.put, List.setIfInBounds_toArray, List.set_cons_zero, List.set_cons_succ])
  refine rdH 5 1023 rfl (by kernel_rfl) (by kernel_rfl) (fun Kk hKk => ?_)
  go_simp
  refine (shl_int _ _ _ _ _ _ (unhide HK).na (Nat.le_trans ((unhide HK).na.short (unhide HPa)) (by omega)) (by omega) (by omega)).mono ?_
  rintro _ w5 ⟨s5, rfl, hN, hbl⟩
  obtain ⟨a5, n5, c5, rfl⟩ := hN.slice
  have HK := hide ((unhide HK).below hbl)
  have H5 := hide hN
  clear hbl hN
  (try go_wp2_with fail)
  refine hKk.out _ _ ?_ (fun hHeld => ?_)
  · (try dsimp only)
    exact ⟨(unhide HK).ca, (unhide HK).cb⟩
  clear hKk Kk
  (try simp only [List.setIfInBounds_toArray, List.set_cons_zero, List.set_cons_succ])
  refine rdH 10 2047 rfl (by kernel_rfl) (by kernel_rfl) (fun Kk hKk => ?_)
  go_simp
  refine (shl_int _ _ _ _ _ _ (unhide HK).nb (Nat.le_trans ((unhide HK).nb.short (unhide HPb)) (by omega)) (by omega) (by omega)).mono ?_
  rintro _ w6 ⟨s6, rfl, hN, hbl⟩
  obtain ⟨a6, n6, c6, rfl⟩ := hN.slice
  have HK := hide ((unhide HK).below hbl)
  have H5 := hide ((unhide H5).below hbl)
  have H6 := hide hN
  clear hbl hN
  (try go_wp2_with fail)
  refine hKk.out _ _ ?_ (fun hHeld => ?_)
  · (try dsimp only)
    exact ⟨(unhide HK).ca, (unhide HK).cb⟩
  clear hKk Kk
  (try simp only [List.setIfInBounds_toArray, List.set_cons_zero, List.set_cons_succ])
  refine rdH 11 4095 rfl (by kernel_rfl) (by kernel_rfl) (fun Kk hKk => ?_)
  go_simp
  refine (refCmp_any _ _ _ _ _ _ _ _ _ (unhide H5) (unhide H6)).mono ?_
  rintro _ w7 ⟨rfl, hbl⟩
  have HK := hide ((unhide HK).below hbl)
  clear hbl
  (try go_wp2_with fail)
  refine hKk.out _ _ ?_ (fun hHeld => ?_)
  · (try dsimp only)
    exact ⟨(unhide HK).ca, (unhide HK).cb⟩
  clear hKk Kk
  (try simp only [List.setIfInBounds_toArray, List.set_cons_zero, List.set_cons_succ])
  refine tkH 12 8 8191 ?v12 rfl (by kernel_rfl) (by kernel_rfl) (fun _ _ _ h => h) (by assumption) (Or.inl ⟨by rfl, ?y12⟩) ?_
  case y12 => ((intro w hSw; (try dsimp only at hSw); go_simp) <;> with_reducible rfl)
  (try simp only [Act.put, List.setIfInBounds_toArray, List.set_cons_zero, List.set_cons_succ])
  refine wpAnyH_done (by kernel_rfl) ?_ _
  clear hHeld
  go_wp2
  go_ret
  exact ⟨rfl, (unhide HK).bel⟩
set_option maxRecDepth 100000 in
set_option maxHeartbeats 2000000 in
theorem over_lo {m k a e k' A : Int} (W : World) (m0 : 0 ≤ m) (m1 : m < 18446744073709551616) (a0 : 0 ≤ a) (a1 : a < 18446744073709551616) (k2 : IntKind.i64.wrap (2 * k) = k') (h : ¬ e < k') (kA : IntKind.i64.wrap (e - k') = A) (A0 : 0 ≤ A) (A1 : A ≤ 10000) :
    Calls Try.prog 52 #[.int .u64 m, .int .i64 k, .int .u64 a, .int .i64 e] W fun r W' => r = .returned (.int .i64 (cmpN (m.toNat * m.toNat) (a.toNat * 2 ^ A.toNat))) ∧ Below W.heap.size W W' := by
  have kz : IntKind.i64.wrap 0 = 0 := by decide
  have HM : Hid (m.toNat < pw 2) := by unfold pw; exact (by omega : m.toNat < 18446744073709551616)
  have HPb : Hid (a.toNat < pw 2) := by unfold pw; exact (by omega : a.toNat < 18446744073709551616)
  have HPa : Hid (m.toNat * m.toNat < pw 4) := by
    have := Nat.mul_lt_mul'' (show m.toNat < 18446744073709551616 by omega) (show m.toNat < 18446744073709551616 by omega)
    unfold pw
    exact this
  go_enter Try.func52, Try.ntmps52
  go_wp2_with fail
  refine (refOf_any m _ m0 m1).mono ?_
  rintro _ w1 ⟨s1, rfl, hN, hbl⟩
  obtain ⟨a1', n1, c1, rfl⟩ := hN.slice
  have HB := hide hbl
  have H1 := hide hN
  clear hbl hN
  go_wp2_with fail
  refine (refOf_any m _ m0 m1).mono ?_
  rintro _ w2 ⟨s2, rfl, hN, hbl⟩
  obtain ⟨a2, n2, c2, rfl⟩ := hN.slice
  have HB := hide (bthen (unhide HB) hbl)
  have H1 := hide ((unhide H1).below hbl)
  have H2 := hide hN
  clear hbl hN
  go_wp2_with fail
  refine (refMul_any _ _ _ _ _ _ _ _ _ (unhide H1) (unhide H2) (Nat.le_trans ((unhide H1).short (unhide HM)) (by omega)) (Nat.le_trans ((unhide H2).short (unhide HM)) (by omega))).mono ?_
  rintro _ w3 ⟨s3, rfl, hN, hbl⟩
  obtain ⟨a3, n3, c3, rfl⟩ := hN.slice
  have HB := hide (balloc (bthen (unhide HB) hbl) (.cells #[.slice a3 n3 c3] 82))
  have H3 := hide (hN.below (below1 w3 (.cells #[.slice a3 n3 c3] 82)))
  have HC3 : Hid ((w3.alloc (.cells #[.slice a3 n3 c3] 82)).cell? ⟨w3.heap.size, 0, none⟩ = some (.slice a3 n3 c3)) := by apply hide; simp [go_sem]
  clear hbl hN H1 H2
  go_wp2_with fail
  refine (refOf_any a _ a0 a1).mono ?_
  rintro _ w4 ⟨s4, rfl, hN, hbl⟩
  obtain ⟨a4, n4, c4, rfl⟩ := hN.slice
  have HK : Hid (OvSt w3.heap.size w4.heap.size W (.slice a3 n3 c3) (.slice a4 n4 c4) (m.toNat * m.toNat) a.toNat (w4.alloc (.cells #[.slice a4 n4 c4] 82)).drew) := by
    have hb2 := bthen hbl ((below1 w4 (.cells #[.slice a4 n4 c4] 82)).drew)
    have hb3 := (below1 w4 (.cells #[.slice a4 n4 c4] 82)).drew
    exact { ca := keep1 hb2 (lt_of_cell (unhide HC3)) (unhide HC3), cb := by simp [go_sem], na := (unhide H3).below hb2, nb := hN.below hb3, bel := bthen (unhide HB) hb2 }
  clear hbl hN H3 HC3 HB
  go_wp2_with fail
  refine wp_region_held_drew (S := fun w' => w'.cell? ⟨w3.heap.size, 0, none⟩ = some (.slice a3 n3 c3) ∧ w'.cell? ⟨w4.heap.size, 0, none⟩ = some (.slice a4 n4 c4)) (by kernel_rfl) ?_ (fun hHeld => ?_)
  · (try dsimp only)
    exact ⟨(unhide HK).ca, (unhide HK).cb⟩
  refine lst0 13 (by kernel_rfl) ?_
  refine tkH 0 23 1 ?v0 rfl (by kernel_rfl) (by kernel_rfl) (fun _ _ _ h => h) (by assumption) (Or.inl ⟨by rfl, ?y0⟩) ?_
  case y0 => ((intro w hSw; (try dsimp only at hSw); go_simp) <;> with_reducible rfl)
  (try simp only [Act.put, List.setIfInBounds_toArray, List.set_cons_zero, List.set_cons_succ])
  refine tkH 1 24 3 ?v1 rfl (by kernel_rfl) (by kernel_rfl) (fun _ _ _ h => h) (by assumption) (Or.inl ⟨by rfl, ?y1⟩) ?_
  case y1 => ((intro w hSw; (try dsimp only at hSw); go_simp) <;> with_reducible rfl)
  (try simp only [Act.put, List.setIfInBounds_toArray, List.set_cons_zero, List.set_cons_succ])
  refine tkH 2 25 7 ?v2 rfl (by kernel_rfl) (by kernel_rfl) (fun _ _ _ h => h) (by assumption) (Or.inl ⟨by rfl, ?y2⟩) ?_
  case y2 => ((intro w hSw; (try dsimp only at hSw); go_simp) <;> with_reducible rfl)
  (try simp only [Act.put, List.setIfInBounds_toArray, List.set_cons_zero, List.set_cons_succ])
  refine tkH 3 26 15 ?v3 rfl (by kernel_rfl) (by kernel_rfl) (fun _ _ _ h => h) (by assumption) (Or.inl ⟨by rfl, ?y3⟩) ?_
  case y3 => ((intro w hSw; (try dsimp only at hSw); go_simp) <;> with_reducible rfl)
  (try simp only [Act.put, List.setIfInBounds_toArray, List.set_cons_zero, List.set_cons_succ])
  refine tkH 4 27 31 ?v4 rfl (by kernel_rfl) (by kernel_rfl) (fun _ _ _ h => h) (by assumption) (Or.inl ⟨by rfl, ?y4⟩) ?_
  case y4 => ((intro w hSw; (try dsimp only at hSw); go_simp) <;> with_reducible rfl)
  (try simp only [Act.put, List.setIfInBounds_toArray, List.set_cons_zero, List.set_cons_succ])
  refine tkH 6 29 95 ?v6 rfl (by kernel_rfl) (by kernel_rfl) (fun _ _ _ h => h) (by assumption) (Or.inl ⟨by rfl, ?y6⟩) ?_
  case y6 => ((intro w hSw; (try dsimp only at hSw); go_simp) <;> with_reducible rfl)
  (try simp only [Act.put, List.setIfInBounds_toArray, List.set_cons_zero, List.set_cons_succ])
  refine tkH 7 30 223 ?v7 rfl (by kernel_rfl) (by kernel_rfl) (fun _ _ _ h => h) (by assumption) (Or.inl ⟨by rfl, ?y7⟩) ?_
  case y7 => ((intro w hSw; (try dsimp only at hSw); go_simp) <;> with_reducible rfl)
  (try simp only [Act.put, List.setIfInBounds_toArray, List.set_cons_zero, List.set_cons_succ])
  refine tkH 8 31 479 ?v8 rfl (by kernel_rfl) (by kernel_rfl) (fun _ _ _ h => h) (by assumption) (Or.inl ⟨by rfl, ?y8⟩) ?_
  case y8 => ((intro w hSw; (try dsimp only at hSw); go_simp) <;> with_reducible rfl)
  (try simp only [Act.put, List.setIfInBounds_toArray, List.set_cons_zero, List.set_cons_succ])
  refine tkH 9 32 991 ?v9 rfl (by kernel_rfl) (by kernel_rfl) (fun _ _ _ h => h) (by assumption) (Or.inl ⟨by rfl, ?y9⟩) ?_
  case y9 => ((intro w hSw; (try dsimp only at hSw); go_simp) <;> with_reducible rfl)
  (try simp only [Act.put, List.setIfInBounds_toArray, List.set_cons_zero, List.set_cons_succ])
  refine rdH 5 1023 rfl (by kernel_rfl) (by kernel_rfl) (fun Kk hKk => ?_)
  go_simp
  refine (shl_int _ _ _ _ _ _ (unhide HK).na (Nat.le_trans ((unhide HK).na.short (unhide HPa)) (by omega)) (by omega) (by omega)).mono ?_
  rintro _ w5 ⟨s5, rfl, hN, hbl⟩
  obtain ⟨a5, n5, c5, rfl⟩ := hN.slice
  have HK := hide ((unhide HK).below hbl)
  have H5 := hide hN
  clear hbl hN
  (try go_wp2_with fail)
  refine hKk.out _ _ ?_ (fun hHeld => ?_)
  · (try dsimp only)
    exact ⟨(unhide HK).ca, (unhide HK).cb⟩
  clear hKk Kk
  (try simp only [List.setIfInBounds_toArray, List.set_cons_zero, List.set_cons_succ])
  refine rdH 10 2047 rfl (by kernel_rfl) (by kernel_rfl) (fun Kk hKk => ?_)
  go_simp
  refine (shl_int _ _ _ _ _ _ (unhide HK).nb (Nat.le_trans ((unhide HK).nb.short (unhide HPb)) (by omega)) (by omega) (by omega)).mono ?_
  rintro _ w6 ⟨s6, rfl, hN, hbl⟩
  obtain ⟨a6, n6, c6, rfl⟩ := hN.slice
  have HK := hide ((unhide HK).below hbl)
  have H5 := hide ((unhide H5).below hbl)
  have H6 := hide hN
  clear hbl hN
  (try go_wp2_with fail)
  refine hKk.out _ _ ?_ (fun hHeld => ?_)
  · (try dsimp only)
    exact ⟨(unhide HK).ca, (unhide HK).cb⟩
  clear hKk Kk
  (try simp only [List.setIfInBounds_toArray, List.set_cons_zero, List.set_cons_succ])
  refine rdH 11 4095 rfl (by kernel_rfl) (by kernel_rfl) (fun Kk hKk => ?_)
  go_simp
  refine (refCmp_any _ _ _ _ _ _ _ _ _ (unhide H5) (unhide H6)).mono ?_
  rintro _ w7 ⟨rfl, hbl⟩
  have HK := hide ((unhide HK).below hbl)
  clear hbl
  (try go_wp2_with fail)
  refine hKk.out _ _ ?_ (fun hHeld => ?_)
  · (try dsimp only)
    exact ⟨(unhide HK).ca, (unhide HK).cb⟩
  clear hKk Kk
  (try simp only [List.setIfInBounds_toArray, List.set_cons_zero, List.set_cons_succ])
  refine tkH 12 8 8191 ?v12 rfl (by kernel_rfl) (by kernel_rfl) (fun _ _ _ h => h) (by assumption) (Or.inl ⟨by rfl, ?y12⟩) ?_
  case y12 => ((intro w hSw; (try dsimp only at hSw); go_simp) <;> with_reducible rfl)
  (try simp only [Act.put, List.setIfInBounds_toArray, List.set_cons_zero, List.set_cons_succ])
  refine wpAnyH_done (by kernel_rfl) ?_ _
  clear hHeld
  go_wp2
  go_ret
  exact ⟨rfl, (unhide HK).bel⟩
set_option maxRecDepth 100000 in
set_option maxHeartbeats 2000000 in
theorem side_fin {w c K X S K1 X1 S1 D M E r0 d : Int} {n n1 : Bool} (W : World) (HO : Hid (∀ W, Calls Try.prog 25 #[.int .i64 w, .int .u64 c] W fun r W' => r = .returned (.agg #[.bool n1, .int .i64 K1, .int .i64 X1, .int .u64 S1]) ∧ Below W.heap.size W W')) (h : (K1 == 0) = false) (k1 : IntKind.u64.wrap (2 * S1) = D) (k2 : IntKind.u64.wrap (D + 1) = M) (k3 : IntKind.i64.wrap (X1 - 1) = E) (HV : Hid (∀ W, Calls Try.prog 52 #[.int .u64 M, .int .i64 E, .int .u64 S, .int .i64 X] W fun r W' => r = .returned (.int .i64 r0) ∧ Below W.heap.size W W')) (k4 : IntKind.i64.wrap (-r0) = d) :
    Calls Try.prog 29 #[.int .i64 w, .int .u64 c, .agg #[.bool n, .int .i64 K, .int .i64 X, .int .u64 S]] W fun r W' => r = .returned (.int .i64 d) ∧ Below W.heap.size W W' := by
  go_enter Try.func29, Try.ntmps29
  go_wp2_with fail
  have HB := hide (below1 W (.cells #[.bool n, .int .i64 K, .int .i64 X, .int .u64 S] 46))
  have HA := hide (at4_new W (.bool n) (.int .i64 K) (.int .i64 X) (.int .u64 S) 46)
  refine (unhide HO _).mono ?_
  rintro _ w1 ⟨rfl, hb⟩
  have HB := hide (balloc (bthen (unhide HB) hb) (.cells #[.bool n1, .int .i64 K1, .int .i64 X1, .int .u64 S1] 46))
  have HA := hide (((unhide HA).below hb).below (below1 w1 (.cells #[.bool n1, .int .i64 K1, .int .i64 X1, .int .u64 S1] 46)))
  have H1 := hide (at4_new w1 (.bool n1) (.int .i64 K1) (.int .i64 X1) (.int .u64 S1) 46)
  have HZ : Hid (W.heap.size < w1.heap.size) := by
    have := hb.size
    simp at this
    apply hide
    omega
  clear hb
  obtain ⟨c0, c1, c2, c3⟩ := unhide HA
  obtain ⟨d0, d1, d2, d3⟩ := unhide H1
  go_wp2_with fail
  refine (unhide HV _).mono ?_
  rintro _ w2 ⟨rfl, hb⟩
  have HB := hide (bthen (unhide HB) hb)
  go_wp2_with fail
  go_ret
  exact ⟨rfl, unhide HB⟩
set_option maxRecDepth 100000 in
set_option maxHeartbeats 2000000 in
theorem side_zero {w c K X S K1 X1 S1 K2 X2 S2 D M E r0 d : Int} {n n1 n2 : Bool} (W : World) (HO : Hid (∀ W, Calls Try.prog 25 #[.int .i64 w, .int .u64 c] W fun r W' => r = .returned (.agg #[.bool n1, .int .i64 K1, .int .i64 X1, .int .u64 S1]) ∧ Below W.heap.size W W')) (h : (K1 == 0) = true) (HO1 : Hid (∀ W, Calls Try.prog 25 #[.int .i64 w, .int .u64 1] W fun r W' => r = .returned (.agg #[.bool n2, .int .i64 K2, .int .i64 X2, .int .u64 S2]) ∧ Below W.heap.size W W')) (k1 : IntKind.u64.wrap (2 * S1) = D) (k2 : IntKind.u64.wrap (D + 1) = M) (k3 : IntKind.i64.wrap (X2 - 1) = E) (HV : Hid (∀ W, Calls Try.prog 52 #[.int .u64 M, .int .i64 E, .int .u64 S, .int .i64 X] W fun r W' => r = .returned (.int .i64 r0) ∧ Below W.heap.size W W')) (k4 : IntKind.i64.wrap (-r0) = d) :
    Calls Try.prog 29 #[.int .i64 w, .int .u64 c, .agg #[.bool n, .int .i64 K, .int .i64 X, .int .u64 S]] W fun r W' => r = .returned (.int .i64 d) ∧ Below W.heap.size W W' := by
  have ff : ∀ w : World, (Instr.field 46 (.agg #[.bool n2, .int .i64 K2, .int .i64 X2, .int .u64 S2]) 2).run Try.prog w = .ok (.int .i64 X2) w := fun _ => by kernel_rfl
  go_enter Try.func29, Try.ntmps29
  go_wp2_with fail
  have HB := hide (below1 W (.cells #[.bool n, .int .i64 K, .int .i64 X, .int .u64 S] 46))
  have HA := hide (at4_new W (.bool n) (.int .i64 K) (.int .i64 X) (.int .u64 S) 46)
  refine (unhide HO _).mono ?_
  rintro _ w1 ⟨rfl, hb⟩
  have HB := hide (balloc (bthen (unhide HB) hb) (.cells #[.bool n1, .int .i64 K1, .int .i64 X1, .int .u64 S1] 46))
  have HA := hide (((unhide HA).below hb).below (below1 w1 (.cells #[.bool n1, .int .i64 K1, .int .i64 X1, .int .u64 S1] 46)))
  have H1 := hide (at4_new w1 (.bool n1) (.int .i64 K1) (.int .i64 X1) (.int .u64 S1) 46)
  have HZ : Hid (W.heap.size < w1.heap.size) := by
    have := hb.size
    simp at this
    apply hide
    omega
  clear hb
  obtain ⟨c0, c1, c2, c3⟩ := unhide HA
  obtain ⟨d0, d1, d2, d3⟩ := unhide H1
  go_wp2_with fail
  clear c0 c1 c2 c3 d0 d1 d2 d3
  refine (unhide HO1 _).mono ?_
  rintro _ w2 ⟨rfl, hb⟩
  have HR := hide (room4 hb)
  have HB := hide (bthen (unhide HB) hb)
  have HA := hide ((unhide HA).below hb)
  have H1 := hide ((unhide H1).below hb)
  clear hb
  have hne : W.heap.size ≠ w1.heap.size := by have := unhide HZ; omega
  have HB := hide (bset (unhide HB) w1.heap.size (Nat.le_of_lt (unhide HZ)) 2 (.int .i64 X2))
  obtain ⟨c0, c1, c2, c3⟩ := (unhide HA).set hne 2 (.int .i64 X2)
  obtain ⟨⟨v2, f2⟩, r2⟩ := (unhide HR) 2 (by omega)
  have e3 := set_off (.int .i64 X2) (show 3 ≠ 2 by omega) (unhide H1).2.2.2
  have e2 := World.cell?_setCell_same _ _ (.int .i64 X2) f2
  go_wp2_with fail
  refine (unhide HV _).mono ?_
  rintro _ w3 ⟨rfl, hb⟩
  have HB := hide (bthen (unhide HB) hb)
  go_wp2_with fail
  go_ret
  exact ⟨rfl, unhide HB⟩
set_option maxRecDepth 100000 in
set_option maxHeartbeats 2000000 in
theorem refSqrt_z {w x K X S V : Int} {n : Bool} (W : World) (HO : Hid (∀ W, Calls Try.prog 25 #[.int .i64 w, .int .u64 x] W fun r W' => r = .returned (.agg #[.bool n, .int .i64 K, .int .i64 X, .int .u64 S]) ∧ Below W.heap.size W W')) (a0 : (K == 0) = true) (HC : Hid (∀ W, Calls Try.prog 26 #[.int .i64 w, .bool n, .int .i64 0, .int .u64 0] W fun r W' => r = .returned (.int .u64 V) ∧ Below W.heap.size W W')) :
    Calls Try.prog 9 #[.int .i64 w, .int .u64 x] W fun r W' => r = .returned (.int .u64 V) ∧ Below W.heap.size W W' := by
  go_enter Try.func9, Try.ntmps9
  go_wp2_with fail
  refine (unhide HO _).mono ?_
  rintro _ w1 ⟨rfl, hb⟩
  have HB := hide (balloc hb (.cells #[.bool n, .int .i64 K, .int .i64 X, .int .u64 S] 46))
  have HA := hide (at4_new w1 (.bool n) (.int .i64 K) (.int .i64 X) (.int .u64 S) 46)
  clear hb
  obtain ⟨c0, c1, c2, c3⟩ := unhide HA
  go_wp2_with fail
  refine (unhide HC _).mono ?_
  rintro _ w2 ⟨rfl, hb⟩
  have HB := hide (bthen (unhide HB) hb)
  go_wp2_with fail
  go_ret
  exact ⟨rfl, unhide HB⟩
set_option maxRecDepth 100000 in
set_option maxHeartbeats 2000000 in
theorem refSqrt_n {w x K X S V : Int} {n : Bool} (W : World) (HO : Hid (∀ W, Calls Try.prog 25 #[.int .i64 w, .int .u64 x] W fun r W' => r = .returned (.agg #[.bool n, .int .i64 K, .int .i64 X, .int .u64 S]) ∧ Below W.heap.size W W')) (a0 : (K == 0) = false) (a3 : (K == 3) = true) (HC : Hid (∀ W, Calls Try.prog 27 #[.int .i64 w] W fun r W' => r = .returned (.int .u64 V) ∧ Below W.heap.size W W')) :
    Calls Try.prog 9 #[.int .i64 w, .int .u64 x] W fun r W' => r = .returned (.int .u64 V) ∧ Below W.heap.size W W' := by
  go_enter Try.func9, Try.ntmps9
  go_wp2_with fail
  refine (unhide HO _).mono ?_
  rintro _ w1 ⟨rfl, hb⟩
  have HB := hide (balloc hb (.cells #[.bool n, .int .i64 K, .int .i64 X, .int .u64 S] 46))
  have HA := hide (at4_new w1 (.bool n) (.int .i64 K) (.int .i64 X) (.int .u64 S) 46)
  clear hb
  obtain ⟨c0, c1, c2, c3⟩ := unhide HA
  go_wp2_with fail
  refine (unhide HC _).mono ?_
  rintro _ w2 ⟨rfl, hb⟩
  have HB := hide (bthen (unhide HB) hb)
  go_wp2_with fail
  go_ret
  exact ⟨rfl, unhide HB⟩
set_option maxRecDepth 100000 in
set_option maxHeartbeats 2000000 in
theorem refSqrt_m {w x K X S V : Int} (W : World) (HO : Hid (∀ W, Calls Try.prog 25 #[.int .i64 w, .int .u64 x] W fun r W' => r = .returned (.agg #[.bool true, .int .i64 K, .int .i64 X, .int .u64 S]) ∧ Below W.heap.size W W')) (a0 : (K == 0) = false) (a3 : (K == 3) = false) (HC : Hid (∀ W, Calls Try.prog 27 #[.int .i64 w] W fun r W' => r = .returned (.int .u64 V) ∧ Below W.heap.size W W')) :
    Calls Try.prog 9 #[.int .i64 w, .int .u64 x] W fun r W' => r = .returned (.int .u64 V) ∧ Below W.heap.size W W' := by
  go_enter Try.func9, Try.ntmps9
  go_wp2_with fail
  refine (unhide HO _).mono ?_
  rintro _ w1 ⟨rfl, hb⟩
  have HB := hide (balloc hb (.cells #[.bool true, .int .i64 K, .int .i64 X, .int .u64 S] 46))
  have HA := hide (at4_new w1 (.bool true) (.int .i64 K) (.int .i64 X) (.int .u64 S) 46)
  clear hb
  obtain ⟨c0, c1, c2, c3⟩ := unhide HA
  go_wp2_with fail
  refine (unhide HC _).mono ?_
  rintro _ w2 ⟨rfl, hb⟩
  have HB := hide (bthen (unhide HB) hb)
  go_wp2_with fail
  go_ret
  exact ⟨rfl, unhide HB⟩
set_option maxRecDepth 100000 in
set_option maxHeartbeats 2000000 in
theorem refSqrt_i {w x K X S V : Int} (W : World) (HO : Hid (∀ W, Calls Try.prog 25 #[.int .i64 w, .int .u64 x] W fun r W' => r = .returned (.agg #[.bool false, .int .i64 K, .int .i64 X, .int .u64 S]) ∧ Below W.heap.size W W')) (a0 : (K == 0) = false) (a3 : (K == 3) = false) (a2 : (K == 2) = true) (HC : Hid (∀ W, Calls Try.prog 28 #[.int .i64 w, .bool false] W fun r W' => r = .returned (.int .u64 V) ∧ Below W.heap.size W W')) :
    Calls Try.prog 9 #[.int .i64 w, .int .u64 x] W fun r W' => r = .returned (.int .u64 V) ∧ Below W.heap.size W W' := by
  go_enter Try.func9, Try.ntmps9
  go_wp2_with fail
  refine (unhide HO _).mono ?_
  rintro _ w1 ⟨rfl, hb⟩
  have HB := hide (balloc hb (.cells #[.bool false, .int .i64 K, .int .i64 X, .int .u64 S] 46))
  have HA := hide (at4_new w1 (.bool false) (.int .i64 K) (.int .i64 X) (.int .u64 S) 46)
  clear hb
  obtain ⟨c0, c1, c2, c3⟩ := unhide HA
  go_wp2_with fail
  refine (unhide HC _).mono ?_
  rintro _ w2 ⟨rfl, hb⟩
  have HB := hide (bthen (unhide HB) hb)
  go_wp2_with fail
  go_ret
  exact ⟨rfl, unhide HB⟩
set_option maxRecDepth 100000 in
set_option maxHeartbeats 2000000 in
theorem refSqrt_f {w x X S T V : Int} (W : World) (HO : Hid (∀ W, Calls Try.prog 25 #[.int .i64 w, .int .u64 x] W fun r W' => r = .returned (.agg #[.bool false, .int .i64 1, .int .i64 X, .int .u64 S]) ∧ Below W.heap.size W W')) (V0 : 0 ≤ V) (HC : Hid (∀ W, Calls Try.prog 28 #[.int .i64 w, .bool false] W fun r W' => r = .returned (.int .u64 T) ∧ Below W.heap.size W W')) (T0 : 0 < T) (T1 : T < 18446744073709551616) (VT : V < T) (sd : Nat → Int) (HS : Hid (∀ m : Nat, (m : Int) < T → ∀ W, Calls Try.prog 29 #[.int .i64 w, .int .u64 (m : Int), .agg #[.bool false, .int .i64 1, .int .i64 X, .int .u64 S]] W fun r W' => r = .returned (.int .i64 (sd m)) ∧ Below W.heap.size W W')) (HD : Hid (∀ m : Nat, ((0 < sd m ∨ (sd m = 0 ∧ m % 2 = 1)) ↔ (m : Int) < V))) :
    Calls Try.prog 9 #[.int .i64 w, .int .u64 x] W fun r W' => r = .returned (.int .u64 V) ∧ Below W.heap.size W W' := by
  go_enter Try.func9, Try.ntmps9
  go_wp2_with fail
  refine (unhide HO _).mono ?_
  rintro _ w1 ⟨rfl, hb⟩
  have HB := hide (balloc hb (.cells #[.bool false, .int .i64 1, .int .i64 X, .int .u64 S] 46))
  have HA := hide (at4_new w1 (.bool false) (.int .i64 1) (.int .i64 X) (.int .u64 S) 46)
  clear hb
  obtain ⟨c0, c1, c2, c3⟩ := unhide HA
  go_wp2_with fail
  clear c0 c1 c2 c3
  refine (unhide HC _).mono ?_
  rintro _ w2 ⟨rfl, hb⟩
  have HB := hide (bthen (unhide HB) hb)
  have HA := hide ((unhide HA).below hb)
  clear hb
  have k1 : IntKind.u64.wrap (T - 1) = T - 1 := by rw [u64_id (by omega) (by omega)]
  go_wp2_with fail
  go_loopw [6, 7] (fun a b wr => ∃ l h : Nat, a = .int .u64 (l : Int) ∧ b = .int .u64 (h : Int) ∧ (l : Int) ≤ V ∧ V ≤ h ∧ (h : Int) < T ∧ At4 w1.heap.size (.bool false) (.int .i64 1) (.int .i64 X) (.int .u64 S) wr ∧ Below W.heap.size W wr) (fun a b _ => (intOf b - intOf a).toNat)
  case atStart => exact ⟨0, (T - 1).toNat, rfl, by rw [show (((T - 1).toNat : Nat) : Int) = T - 1 by omega], by omega, by omega, by omega, unhide HA, unhide HB⟩
  case round =>
    obtain ⟨l, h, rfl, rfl, hl, hh, hT, hA, hb⟩ := hrel
    have HA := hide hA
    have HB := hide hb
    clear hA hb
    by_cases hlt : (l : Int) < (h : Int)
    · have k2 : IntKind.u64.wrap ((h : Int) - (l : Int)) = ((h - l : Nat) : Int) := by rw [u64_id (by omega) (by omega)]; omega
      have k3 := quo_u64 (c := ((h - l : Nat) : Int)) (R := 2) (by omega) (by omega) (by omega)
      have k4 : IntKind.u64.wrap ((l : Int) + ((h - l : Nat) : Int) / 2) = ((l + (h - l) / 2 : Nat) : Int) := by rw [u64_id (by omega) (by omega)]; omega
      have m0 : l ≤ l + (h - l) / 2 := by omega
      have m1 : l + (h - l) / 2 < h := by omega
      generalize l + (h - l) / 2 = m at *
      generalize ((h - l : Nat) : Int) = d1 at *
      generalize d1 / 2 = d2 at *
      have k5 : IntKind.u64.wrap ((m : Int) + 1) = ((m + 1 : Nat) : Int) := by rw [u64_id (by omega) (by omega)]; omega
      have HM := unhide HD m
      have HS := unhide HS m (by omega)
      generalize sd m = sm at *
      obtain ⟨c0, c1, c2, c3⟩ := unhide HA
      go_wp2_with fail
      clear c0 c1 c2 c3
      refine (HS _).mono ?_
      rintro _ w3 ⟨rfl, hb⟩
      have HB := hide (bthen (unhide HB) hb)
      have HA := hide ((unhide HA).below hb)
      clear hb
      have UP : (m : Int) < V → (∃ l' h' : Nat, Value.int IntKind.u64 ((m : Int) + 1) = Value.int IntKind.u64 (l' : Int) ∧ Value.int IntKind.u64 (h : Int) = Value.int IntKind.u64 (h' : Int) ∧ (l' : Int) ≤ V ∧ V ≤ h' ∧ (h' : Int) < T ∧ At4 w1.heap.size (.bool false) (.int .i64 1) (.int .i64 X) (.int .u64 S) w3 ∧ Below W.heap.size W w3) ∧ (intOf (Value.int IntKind.u64 (h : Int)) - intOf (Value.int IntKind.u64 ((m : Int) + 1))).toNat < (intOf (Value.int IntKind.u64 (h : Int)) - intOf (Value.int IntKind.u64 (l : Int))).toNat :=
        fun hv => ⟨⟨m + 1, h, by rw [Int.natCast_add]; rfl, rfl, by omega, hh, hT, unhide HA, unhide HB⟩, by simp only [intOf]; omega⟩
      have DN : ¬ (m : Int) < V → (∃ l' h' : Nat, Value.int IntKind.u64 (l : Int) = Value.int IntKind.u64 (l' : Int) ∧ Value.int IntKind.u64 (m : Int) = Value.int IntKind.u64 (h' : Int) ∧ (l' : Int) ≤ V ∧ V ≤ h' ∧ (h' : Int) < T ∧ At4 w1.heap.size (.bool false) (.int .i64 1) (.int .i64 X) (.int .u64 S) w3 ∧ Below W.heap.size W w3) ∧ (intOf (Value.int IntKind.u64 (m : Int)) - intOf (Value.int IntKind.u64 (l : Int))).toNat < (intOf (Value.int IntKind.u64 (h : Int)) - intOf (Value.int IntKind.u64 (l : Int))).toNat :=
        fun hv => ⟨⟨l, m, rfl, rfl, hl, by omega, by omega, unhide HA, unhide HB⟩, by simp only [intOf]; omega⟩
      have UP := hide UP
      have DN := hide DN
      by_cases s0 : 0 < sm
      · have HV := hide (HM.1 (Or.inl s0))
        clear HM
        go_wp2
        exact unhide UP (unhide HV)
      · by_cases s1 : sm = 0
        · by_cases p : m % 2 = 1
          · have HV := hide (HM.1 (Or.inr ⟨s1, p⟩))
            have kr : IntKind.u64.wrap ((m : Int).tmod 2) = 1 := by rw [Int.tmod_eq_emod_of_nonneg (by omega), u64_id (by omega) (by omega)]; omega
            subst s1
            clear HM
            go_wp2
            exact unhide UP (unhide HV)
          · have HV := hide (mt HM.2 (by omega))
            have kr : IntKind.u64.wrap ((m : Int).tmod 2) = 0 := by rw [Int.tmod_eq_emod_of_nonneg (by omega), u64_id (by omega) (by omega)]; omega
            subst s1
            clear HM
            go_wp2
            exact unhide DN (unhide HV)
        · have HV := hide (mt HM.2 (by omega))
          have s2 : (sm == 0) = false := eq_f s1
          clear HM
          go_wp2
          exact unhide DN (unhide HV)
    · obtain rfl : V = (l : Int) := by omega
      go_wp2
      go_ret
      exact ⟨rfl, unhide HB⟩

end Go.Proofs.Ytafejbkjkbgocaa
