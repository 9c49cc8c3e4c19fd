/- Grain. -/
import Derived.Test.YtahdcbjfabccpaaT01
import Derived.Test.YtahdcbjfabccpaaT26
namespace Go.Proofs.Ytahdcbjfabccpaa
open Go.RowKit
open Go.Proofs.Ytahdcbjfabccpaa.W

set_option maxHeartbeats 400000 in
theorem refLow_any {w e f P Q b : Int} (h : Kd w e f P Q b) (W : World) :
    Calls Try.prog 65 #[.int .i64 w] W fun r W' => r = .returned (.int .i64 (1 - b - f)) ∧ Below W.heap.size W W' := by
  have k1 : IntKind.i64.wrap (1 - b) = 1 - b := i64_id (by rcases h with h | h <;> omega) (by rcases h with h | h <;> omega)
  have k2 : IntKind.i64.wrap (1 - b - f) = 1 - b - f := i64_id (by rcases h with h | h <;> omega) (by rcases h with h | h <;> omega)
  go_enter Try.func65, Try.ntmps65
  go_wp2_with fail
  refine (refB_any h _).mono ?_
  rintro _ w1 ⟨rfl, hb1⟩
  go_wp2_with fail
  refine (refF_any h _).mono ?_
  rintro _ w2 ⟨rfl, hb2⟩
  go_wp2_with fail
  go_ret
  exact ⟨rfl, bthen hb1 hb2⟩

theorem shl_int (a : Option Addr) (n c x : Nat) (s : Int) (w : World) (hx : IsNat w (.slice a n c) x) (hn : n ≤ 1000) (h0 : 0 ≤ s) (h1 : s ≤ 10000) :
    Calls Try.prog 38 #[.agg #[.slice a n c], .int .i64 s] w fun e w' => ∃ s', e = .returned (.agg #[s']) ∧ IsNat w' s' (x * 2 ^ s.toNat) ∧ Below w.heap.size w w' := by
  have := refShl_any a n c x s.toNat w hx hn (by omega)
  rw [show ((s.toNat : Nat) : Int) = s by omega] at this
  exact this

/-- Two numbers in variables. -/
structure TwoSt (N : Nat) (w : World) (sa sb : Value) (x y : Nat) (w' : World) : Prop where
  ca : w'.cell? ⟨N, 0, none⟩ = some sa
  cb : w'.cell? ⟨N + 1, 0, none⟩ = some sb
  na : IsNat w' sa x
  nb : IsNat w' sb y
  bel : Below w.heap.size w w'
theorem TwoSt.below {N : Nat} {w : World} {sa sb : Value} {x y : Nat} {w' w'' : World} (h : TwoSt N w sa sb x y w') (hb : Below w'.heap.size w' w'') : TwoSt N w sa sb x y w'' :=
  { ca := keep1 hb (lt_of_cell h.ca) h.ca, cb := keep1 hb (lt_of_cell h.cb) h.cb, na := h.na.below hb, nb := h.nb.below hb, bel := bthen h.bel hb }

set_option maxRecDepth 100000 in
set_option maxHeartbeats 1000000 in
theorem under_up (a b : Option Addr) (n c m d x y : Nat) (s : Int) (w : World) (hx : IsNat w (.slice a n c) x) (hy : IsNat w (.slice b m d) y) (bx : x < pw 300) (h0 : 0 ≤ s) (h2 : s ≤ 10000) :
    Calls Try.prog 66 #[.agg #[.slice a n c], .agg #[.slice b m d], .int .i64 s] w fun e w' => e = .returned (.bool (decide (cmpN (x * 2 ^ s.toNat) y < 0))) ∧ Below w.heap.size w w' := by
  have HA := hide bx; have HX := hide hx; have HY := hide hy
  clear hx hy
  go_enter Try.func66, Try.ntmps66
  go_wp2_with fail
  have HK : Hid (TwoSt w.heap.size w (.slice a n c) (.slice b m d) x y ((w.alloc (.cells #[.slice a n c] 57)).alloc (.cells #[.slice b m d] 57)).drew) :=
    { ca := by simp [go_sem], cb := by simp [go_sem], na := (unhide HX).below (below2 _ _ _).drew, nb := (unhide HY).below (below2 _ _ _).drew, bel := (below2 _ _ _).drew }
  clear HX HY
  refine wp_region_held_drew (S := fun w' => w'.cell? ⟨w.heap.size, 0, none⟩ = some (.slice a n c) ∧ w'.cell? ⟨w.heap.size + 1, 0, none⟩ = some (.slice b m d)) (by kernel_rfl) ?_ (fun hHeld => ?_)
  · (try dsimp only)
    exact ⟨(unhide HK).ca, (unhide HK).cb⟩
  refine lst0 7 (by kernel_rfl) ?_
  refine tkA 0 9 1 ?_
  refine tkA 1 10 3 ?_
  refine tkA 3 12 11 ?_
  refine rdA 2 15 (fun Kk hKk => ?_)
  go_simp
  refine (shl_int _ _ _ _ _ _ (unhide HK).na (Nat.le_trans ((unhide HK).na.short (unhide HA)) (by omega)) (by omega) (by omega)).mono ?_
  rintro _ w3 ⟨s3, rfl, hN3, hbl⟩
  obtain ⟨a3, n3, c3, rfl⟩ := hN3.slice
  have H3 := hide hN3
  have HK := hide ((unhide HK).below hbl)
  clear hbl hN3
  (try go_wp2_with fail)
  refine hKk.out _ _ ?_ (fun hHeld => ?_)
  · (try dsimp only)
    exact ⟨(unhide HK).ca, (unhide HK).cb⟩
  clear hKk Kk
  (try simp only [List.setIfInBounds_toArray, List.set_cons_zero, List.set_cons_succ])
  refine rdA 4 31 (fun Kk hKk => ?_)
  go_simp
  refine (refCmp_any _ _ _ _ _ _ _ _ _ (unhide H3) (unhide HK).nb).mono ?_
  rintro _ w4 ⟨rfl, hbl⟩
  have HK := hide ((unhide HK).below hbl)
  clear hbl
  (try go_wp2_with fail)
  refine hKk.out _ _ ?_ (fun hHeld => ?_)
  · (try dsimp only)
    exact ⟨(unhide HK).ca, (unhide HK).cb⟩
  clear hKk Kk
  (try simp only [List.setIfInBounds_toArray, List.set_cons_zero, List.set_cons_succ])
  refine tkA 5 14 63 ?_
  refine tkA 6 6 127 ?_
  refine wpAnyH_done (by kernel_rfl) ?_ _
  clear hHeld
  go_wp2
  go_ret
  exact ⟨rfl, (unhide HK).bel⟩

set_option maxRecDepth 100000 in
set_option maxHeartbeats 1000000 in
theorem under_dn (a b : Option Addr) (n c m d x y : Nat) (s : Int) (w : World) (hx : IsNat w (.slice a n c) x) (hy : IsNat w (.slice b m d) y) (hby : y < pw 300) (h0 : ¬ 0 ≤ s) (h1 : -10000 ≤ s) (kn : IntKind.i64.wrap (-s) = -s) :
    Calls Try.prog 66 #[.agg #[.slice a n c], .agg #[.slice b m d], .int .i64 s] w fun e w' => e = .returned (.bool (decide (cmpN x (y * 2 ^ (-s).toNat) < 0))) ∧ Below w.heap.size w w' := by
  have HB := hide hby; have HX := hide hx; have HY := hide hy
  clear hx hy
  go_enter Try.func66, Try.ntmps66
  go_wp2_with fail
  have HK : Hid (TwoSt w.heap.size w (.slice a n c) (.slice b m d) x y ((w.alloc (.cells #[.slice a n c] 57)).alloc (.cells #[.slice b m d] 57)).drew) :=
    { ca := by simp [go_sem], cb := by simp [go_sem], na := (unhide HX).below (below2 _ _ _).drew, nb := (unhide HY).below (below2 _ _ _).drew, bel := (below2 _ _ _).drew }
  clear HX HY
  refine wp_region_held_drew (S := fun w' => w'.cell? ⟨w.heap.size, 0, none⟩ = some (.slice a n c) ∧ w'.cell? ⟨w.heap.size + 1, 0, none⟩ = some (.slice b m d)) (by kernel_rfl) ?_ (fun hHeld => ?_)
  · (try dsimp only)
    exact ⟨(unhide HK).ca, (unhide HK).cb⟩
  refine lst0 8 (by kernel_rfl) ?_
  refine tkA 0 15 1 ?_
  refine tkA 1 16 3 ?_
  refine tkA 2 17 7 ?_
  refine tkA 3 18 15 ?_
  refine rdA 4 31 (fun Kk hKk => ?_)
  go_simp
  refine (shl_int _ _ _ _ _ _ (unhide HK).nb (Nat.le_trans ((unhide HK).nb.short (unhide HB)) (by omega)) (by omega) (by omega)).mono ?_
  rintro _ w3 ⟨s3, rfl, hN3, hbl⟩
  obtain ⟨a3, n3, c3, rfl⟩ := hN3.slice
  have H3 := hide hN3
  have HK := hide ((unhide HK).below hbl)
  clear hbl hN3
  (try go_wp2_with fail)
  refine hKk.out _ _ ?_ (fun hHeld => ?_)
  · (try dsimp only)
    exact ⟨(unhide HK).ca, (unhide HK).cb⟩
  clear hKk Kk
  (try simp only [List.setIfInBounds_toArray, List.set_cons_zero, List.set_cons_succ])
  refine rdA 5 63 (fun Kk hKk => ?_)
  go_simp
  refine (refCmp_any _ _ _ _ _ _ _ _ _ (unhide HK).na (unhide H3)).mono ?_
  rintro _ w4 ⟨rfl, hbl⟩
  have HK := hide ((unhide HK).below hbl)
  clear hbl
  (try go_wp2_with fail)
  refine hKk.out _ _ ?_ (fun hHeld => ?_)
  · (try dsimp only)
    exact ⟨(unhide HK).ca, (unhide HK).cb⟩
  clear hKk Kk
  (try simp only [List.setIfInBounds_toArray, List.set_cons_zero, List.set_cons_succ])
  refine tkA 6 21 127 ?_
  refine tkA 7 6 255 ?_
  refine wpAnyH_done (by kernel_rfl) ?_ _
  clear hHeld
  go_wp2
  go_ret
  exact ⟨rfl, (unhide HK).bel⟩

set_option maxRecDepth 100000 in
set_option maxHeartbeats 1000000 in
theorem grain_up (a b : Option Addr) (n c m d x y : Nat) (s : Int) (w : World) (hx : IsNat w (.slice a n c) x) (hy : IsNat w (.slice b m d) y) (bx : x < pw 300) (bz : x * 2 ^ s.toNat < pw 300) (hy0 : y ≠ 0) (hby : y < pw 300) (h0 : 0 ≤ s) (h2 : s ≤ 10000) :
    Calls Try.prog 67 #[.agg #[.slice a n c], .agg #[.slice b m d], .int .i64 s] w fun e w' => ∃ s', e = .returned (.agg #[s']) ∧ IsNat w' s' (near (x * 2 ^ s.toNat) y) ∧ Below w.heap.size w w' := by
  have HA := hide bx; have HX := hide hx; have HY := hide hy
  clear hx hy
  go_enter Try.func67, Try.ntmps67
  go_wp2_with fail
  have hb := (balloc (below2 w (.cells #[.slice a n c] 57) (.cells #[.slice b m d] 57)) (.cells #[.slice none 0 0] 57)).drew
  have HK : Hid (TwoSt w.heap.size w (.slice a n c) (.slice b m d) x y (((w.alloc (.cells #[.slice a n c] 57)).alloc (.cells #[.slice b m d] 57)).alloc (.cells #[.slice none 0 0] 57)).drew) :=
    { ca := by simp [go_sem], cb := by simp [go_sem], na := (unhide HX).below hb, nb := (unhide HY).below hb, bel := hb }
  have HM : Hid ((((w.alloc (.cells #[.slice a n c] 57)).alloc (.cells #[.slice b m d] 57)).alloc (.cells #[.slice none 0 0] 57)).drew.cell? ⟨w.heap.size + 1 + 1, 0, none⟩ = some (.slice none 0 0) ∧ (((w.alloc (.cells #[.slice a n c] 57)).alloc (.cells #[.slice b m d] 57)).alloc (.cells #[.slice none 0 0] 57)).drew.frozen? ⟨w.heap.size + 1 + 1, 0, none⟩ = false) := ⟨by simp [go_sem], by simp [go_sem]⟩
  clear HX HY hb
  refine wp_region_held_drew (S := fun w' => w'.cell? ⟨w.heap.size, 0, none⟩ = some (.slice a n c) ∧ w'.cell? ⟨w.heap.size + 1, 0, none⟩ = some (.slice b m d) ∧ Room (w.heap.size + 1 + 1) 1 w') (by kernel_rfl) ?_ (fun hHeld => ?_)
  · (try dsimp only)
    exact ⟨(unhide HK).ca, (unhide HK).cb, room1 (unhide HM).1 (unhide HM).2⟩
  refine lst0 6 (by kernel_rfl) ?_
  refine tkA 0 9 1 ?_
  refine tkA 1 10 3 ?_
  refine tkA 3 12 11 ?_
  refine rdA 2 15 (fun Kk hKk => ?_)
  go_simp
  refine (shl_int _ _ _ _ _ _ (unhide HK).na (Nat.le_trans ((unhide HK).na.short (unhide HA)) (by omega)) (by omega) (by omega)).mono ?_
  rintro _ w3 ⟨s3, rfl, hN3, hbl⟩
  obtain ⟨a3, n3, c3, rfl⟩ := hN3.slice
  have H3 := hide hN3
  have HK := hide ((unhide HK).below hbl)
  have HM := hide (And.intro (keep1 hbl (lt_of_cell (unhide HM).1) (unhide HM).1) ((hbl.frozen (lt_of_cell (unhide HM).1)).trans (unhide HM).2))
  clear hbl hN3
  (try go_wp2_with fail)
  refine hKk.out _ _ ?_ (fun hHeld => ?_)
  · (try dsimp only)
    exact ⟨(unhide HK).ca, (unhide HK).cb, room1 (unhide HM).1 (unhide HM).2⟩
  clear hKk Kk
  (try simp only [List.setIfInBounds_toArray, List.set_cons_zero, List.set_cons_succ])
  refine rdA 4 31 (fun Kk hKk => ?_)
  go_simp
  refine (quot_any _ _ _ _ _ _ _ _ _ (unhide H3) (unhide HK).nb hy0 bz hby).mono ?_
  rintro _ w4 ⟨s4, rfl, hN4, hbl⟩
  obtain ⟨a4, n4, c4, rfl⟩ := hN4.slice
  have H4 := hide hN4
  have HK := hide ((unhide HK).below hbl)
  have HM := hide (And.intro (keep1 hbl (lt_of_cell (unhide HM).1) (unhide HM).1) ((hbl.frozen (lt_of_cell (unhide HM).1)).trans (unhide HM).2))
  clear hbl hN4
  (try go_wp2_with fail)
  refine hKk.out _ _ ?_ (fun hHeld => ?_)
  · (try dsimp only)
    exact ⟨(unhide HK).ca, (unhide HK).cb, room1 (unhide HM).1 (unhide HM).2⟩
  clear hKk Kk
  (try simp only [List.setIfInBounds_toArray, List.set_cons_zero, List.set_cons_succ])
  refine rdA 5 63 (fun Kk hKk => ?_)
  obtain ⟨⟨v0, c0⟩, f0⟩ := hHeld.2.2 0 (by omega)
  go_simp
  refine hKk.out _ _ ?_ (fun hHeld => ?_)
  · (try dsimp only)
    exact ⟨keep_set _ _ _ (by omega) hHeld.1, keep_set _ _ _ (by omega) hHeld.2.1, hHeld.2.2.set _ _⟩
  clear hKk Kk
  (try simp only [List.setIfInBounds_toArray, List.set_cons_zero, List.set_cons_succ])
  refine wpAnyH_done (by kernel_rfl) ?_ _
  clear hHeld
  have cr := (unhide HM).1
  go_wp2_with fail
  refine bodyPost_ret (v := .agg #[.slice a4 n4 c4]) (by simp [results, Try.results67, go_sem, cr]) rfl ⟨_, rfl, (unhide H4).store cr _, ?_⟩
  exact (unhide HK).bel.setCell (by simp; omega) _

set_option maxRecDepth 100000 in
set_option maxHeartbeats 1000000 in
theorem grain_dn (a b : Option Addr) (n c m d x y : Nat) (s : Int) (w : World) (hx : IsNat w (.slice a n c) x) (hy : IsNat w (.slice b m d) y) (bx : x < pw 300) (hy0 : y * 2 ^ (-s).toNat ≠ 0) (hby : y < pw 300) (bz : y * 2 ^ (-s).toNat < pw 300) (h0 : ¬ 0 ≤ s) (h1 : -10000 ≤ s) (kn : IntKind.i64.wrap (-s) = -s) :
    Calls Try.prog 67 #[.agg #[.slice a n c], .agg #[.slice b m d], .int .i64 s] w fun e w' => ∃ s', e = .returned (.agg #[s']) ∧ IsNat w' s' (near x (y * 2 ^ (-s).toNat)) ∧ Below w.heap.size w w' := by
  have HB := hide hby; have HX := hide hx; have HY := hide hy
  clear hx hy
  go_enter Try.func67, Try.ntmps67
  go_wp2_with fail
  have hb := (balloc (below2 w (.cells #[.slice a n c] 57) (.cells #[.slice b m d] 57)) (.cells #[.slice none 0 0] 57)).drew
  have HK : Hid (TwoSt w.heap.size w (.slice a n c) (.slice b m d) x y (((w.alloc (.cells #[.slice a n c] 57)).alloc (.cells #[.slice b m d] 57)).alloc (.cells #[.slice none 0 0] 57)).drew) :=
    { ca := by simp [go_sem], cb := by simp [go_sem], na := (unhide HX).below hb, nb := (unhide HY).below hb, bel := hb }
  have HM : Hid ((((w.alloc (.cells #[.slice a n c] 57)).alloc (.cells #[.slice b m d] 57)).alloc (.cells #[.slice none 0 0] 57)).drew.cell? ⟨w.heap.size + 1 + 1, 0, none⟩ = some (.slice none 0 0) ∧ (((w.alloc (.cells #[.slice a n c] 57)).alloc (.cells #[.slice b m d] 57)).alloc (.cells #[.slice none 0 0] 57)).drew.frozen? ⟨w.heap.size + 1 + 1, 0, none⟩ = false) := ⟨by simp [go_sem], by simp [go_sem]⟩
  clear HX HY hb
  refine wp_region_held_drew (S := fun w' => w'.cell? ⟨w.heap.size, 0, none⟩ = some (.slice a n c) ∧ w'.cell? ⟨w.heap.size + 1, 0, none⟩ = some (.slice b m d) ∧ Room (w.heap.size + 1 + 1) 1 w') (by kernel_rfl) ?_ (fun hHeld => ?_)
  · (try dsimp only)
    exact ⟨(unhide HK).ca, (unhide HK).cb, room1 (unhide HM).1 (unhide HM).2⟩
  refine lst0 7 (by kernel_rfl) ?_
  refine tkA 0 14 1 ?_
  refine tkA 1 15 3 ?_
  refine tkA 2 16 7 ?_
  refine tkA 3 17 15 ?_
  refine rdA 4 31 (fun Kk hKk => ?_)
  go_simp
  refine (shl_int _ _ _ _ _ _ (unhide HK).nb (Nat.le_trans ((unhide HK).nb.short (unhide HB)) (by omega)) (by omega) (by omega)).mono ?_
  rintro _ w3 ⟨s3, rfl, hN3, hbl⟩
  obtain ⟨a3, n3, c3, rfl⟩ := hN3.slice
  have H3 := hide hN3
  have HK := hide ((unhide HK).below hbl)
  have HM := hide (And.intro (keep1 hbl (lt_of_cell (unhide HM).1) (unhide HM).1) ((hbl.frozen (lt_of_cell (unhide HM).1)).trans (unhide HM).2))
  clear hbl hN3
  (try go_wp2_with fail)
  refine hKk.out _ _ ?_ (fun hHeld => ?_)
  · (try dsimp only)
    exact ⟨(unhide HK).ca, (unhide HK).cb, room1 (unhide HM).1 (unhide HM).2⟩
  clear hKk Kk
  (try simp only [List.setIfInBounds_toArray, List.set_cons_zero, List.set_cons_succ])
  refine rdA 5 63 (fun Kk hKk => ?_)
  go_simp
  refine (quot_any _ _ _ _ _ _ _ _ _ (unhide HK).na (unhide H3) hy0 bx bz).mono ?_
  rintro _ w4 ⟨s4, rfl, hN4, hbl⟩
  obtain ⟨a4, n4, c4, rfl⟩ := hN4.slice
  have H4 := hide hN4
  have HK := hide ((unhide HK).below hbl)
  have HM := hide (And.intro (keep1 hbl (lt_of_cell (unhide HM).1) (unhide HM).1) ((hbl.frozen (lt_of_cell (unhide HM).1)).trans (unhide HM).2))
  clear hbl hN4
  (try go_wp2_with fail)
  refine hKk.out _ _ ?_ (fun hHeld => ?_)
  · (try dsimp only)
    exact ⟨(unhide HK).ca, (unhide HK).cb, room1 (unhide HM).1 (unhide HM).2⟩
  clear hKk Kk
  (try simp only [List.setIfInBounds_toArray, List.set_cons_zero, List.set_cons_succ])
  refine rdA 6 127 (fun Kk hKk => ?_)
  obtain ⟨⟨v0, c0⟩, f0⟩ := hHeld.2.2 0 (by omega)
  go_simp
  refine hKk.out _ _ ?_ (fun hHeld => ?_)
  · (try dsimp only)
    exact ⟨keep_set _ _ _ (by omega) hHeld.1, keep_set _ _ _ (by omega) hHeld.2.1, hHeld.2.2.set _ _⟩
  clear hKk Kk
  (try simp only [List.setIfInBounds_toArray, List.set_cons_zero, List.set_cons_succ])
  refine wpAnyH_done (by kernel_rfl) ?_ _
  clear hHeld
  have cr := (unhide HM).1
  go_wp2_with fail
  refine bodyPost_ret (v := .agg #[.slice a4 n4 c4]) (by simp [results, Try.results67, go_sem, cr]) rfl ⟨_, rfl, (unhide H4).store cr _, ?_⟩
  exact (unhide HK).bel.setCell (by simp; omega) _

end Go.Proofs.Ytahdcbjfabccpaa
