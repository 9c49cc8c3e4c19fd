/- Quot. -/
import Derived.Test.YtahdcbjfabccpaaT01
import Derived.Test.YtahdcbjfabccpaaT18
import Derived.Test.YtahdcbjfabccpaaT25
namespace Go.Proofs.Ytahdcbjfabccpaa
open Go.RowKit
open Go.Proofs.Ytahdcbjfabccpaa.W

/-- The quotient's variables. -/
structure QSt (N B : Nat) (w : World) (bs s1 s2 : Value) (y q r : Nat) (w' : World) : Prop where
  cb : w'.cell? ⟨N + 1, 0, none⟩ = some bs
  c1 : w'.cell? ⟨B, 0, none⟩ = some s1
  c2 : w'.cell? ⟨B + 1, 0, none⟩ = some s2
  cr : w'.cell? ⟨N + 1 + 1, 0, none⟩ = some (.slice none 0 0)
  fr : w'.frozen? ⟨N + 1 + 1, 0, none⟩ = false
  nb : IsNat w' bs y
  n1 : IsNat w' s1 q
  n2 : IsNat w' s2 r
  bel : Below w.heap.size w w'
theorem QSt.below {N B : Nat} {w : World} {bs s1 s2 : Value} {y q r : Nat} {w' w'' : World} (h : QSt N B w bs s1 s2 y q r w') (hb : Below w'.heap.size w' w'') : QSt N B w bs s1 s2 y q r w'' :=
  { cb := keep1 hb (lt_of_cell h.cb) h.cb, c1 := keep1 hb (lt_of_cell h.c1) h.c1, c2 := keep1 hb (lt_of_cell h.c2) h.c2, cr := keep1 hb (lt_of_cell h.cr) h.cr,
    fr := by rw [hb.frozen (lt_of_cell h.cr)]; exact h.fr, nb := h.nb.below hb, n1 := h.n1.below hb, n2 := h.n2.below hb, bel := bthen h.bel hb }

theorem room1 {b : Nat} {v : Value} {w : World} (h : w.cell? ⟨b, 0, none⟩ = some v) (hf : w.frozen? ⟨b, 0, none⟩ = false) : Room b 1 w := fun o ho => by
  match o, ho with
  | 0, _ => exact ⟨⟨v, h⟩, hf⟩

theorem shl_one (a : Option Addr) (n c x : Nat) (w : World) (hx : IsNat w (.slice a n c) x) (hn : n ≤ 1000) :
    Calls Try.prog 38 #[.agg #[.slice a n c], .int .i64 1] w fun e w' => ∃ s', e = .returned (.agg #[s']) ∧ IsNat w' s' (x * 2 ^ 1) ∧ Below w.heap.size w w' := refShl_any a n c x 1 w hx hn (by omega)

set_option maxRecDepth 100000 in
set_option maxHeartbeats 2000000 in
theorem quot_g (a b : Option Addr) (n c m d x y : Nat) (w : World) (hx : IsNat w (.slice a n c) x) (hy : IsNat w (.slice b m d) y) (hy0 : y ≠ 0) (bx : x < pw 300) (hby : y < pw 300) (hv : cmpN (x % y * 2 ^ 1) y = 1) :
    Calls Try.prog 75 #[.agg #[.slice a n c], .agg #[.slice b m d]] w fun e w' => ∃ s', e = .returned (.agg #[s']) ∧ IsNat w' s' (x / y + 1) ∧ Below w.heap.size w w' := by
  have HV := hide hv; have HR := hide (Nat.lt_of_le_of_lt (Nat.mod_le x y) bx); have HX := hide hx; have HY := hide hy
  have HQ := hide (Nat.lt_of_le_of_lt (Nat.div_le_self x y) bx)
  clear hv hx hy
  go_enter Try.func75, Try.ntmps75
  go_wp2_with fail
  refine (refDiv_any a b n c m d x y _ ((unhide HX).below (balloc (below2 _ _ _) _)) ((unhide HY).below (balloc (below2 _ _ _) _)) hy0 bx hby).mono ?_
  rintro _ w1 ⟨s1, s2, rfl, hN1, hN2, hb⟩
  obtain ⟨a1, n1, c1, rfl⟩ := hN1.slice
  obtain ⟨a2, n2, c2, rfl⟩ := hN2.slice
  have hz : w.heap.size + 1 + 1 + 1 ≤ w1.heap.size := by have := hb.size; simp at this; omega
  have HNE : Hid (w1.heap.size ≠ w.heap.size + 1 + 1) := by unfold Hid; omega
  have HK : Hid (QSt w.heap.size w1.heap.size w (.slice b m d) (.slice a1 n1 c1) (.slice a2 n2 c2) y (x / y) (x % y) ((w1.alloc (.cells #[.slice a1 n1 c1] 57)).alloc (.cells #[.slice a2 n2 c2] 57))) := by
    have hb2 := below2 w1 (.cells #[.slice a1 n1 c1] 57) (.cells #[.slice a2 n2 c2] 57)
    have ha : Below w.heap.size w (((w.alloc (.cells #[.slice a n c] 57)).alloc (.cells #[.slice b m d] 57)).alloc (.cells #[.slice none 0 0] 57)) := balloc (below2 _ _ _) _
    have hB := bthen hb hb2
    exact { cb := by rw [hB.cell (by simp)]; simp [go_sem], c1 := by simp [go_sem], c2 := by simp [go_sem], cr := by rw [hB.cell (by simp)]; simp [go_sem], fr := by rw [hB.frozen (by simp)]; simp [go_sem],
             nb := ((unhide HY).below ha).below hB, n1 := hN1.below hb2, n2 := hN2.below hb2, bel := bthen ha hB }
  clear hb hN1 hN2 HX HY
  go_wp2_with fail
  have HK := hide ((unhide HK).below ((Below.refl _ _).drew))
  refine wp_region_held_drew (S := fun w' => w'.cell? ⟨w.heap.size + 1, 0, none⟩ = some (.slice b m d) ∧ w'.cell? ⟨w1.heap.size, 0, none⟩ = some (.slice a1 n1 c1) ∧ w'.cell? ⟨w1.heap.size + 1, 0, none⟩ = some (.slice a2 n2 c2)) (by kernel_rfl) ?_ (fun hHeld => ?_)
  · (try dsimp only)
    exact ⟨(unhide HK).cb, (unhide HK).c1, (unhide HK).c2⟩
  refine lst0 5 (by kernel_rfl) ?_
  refine tkA 0 14 1 ?_
  refine tkA 2 16 5 ?_
  refine rdA 1 7 (fun Kk hKk => ?_)
  go_simp
  refine (shl_one _ _ _ _ _ (unhide HK).n2 (Nat.le_trans ((unhide HK).n2.short (lt_pw 300 (unhide HR) (by omega))) (by omega))).mono ?_
  rintro _ w3 ⟨s3, rfl, hN3, hbl⟩
  obtain ⟨a3, n3, c3, rfl⟩ := hN3.slice
  have H3 := hide hN3
  have HK := hide ((unhide HK).below hbl)
  clear hbl hN3
  (try go_wp2_with fail)
  refine hKk.out _ _ ?_ (fun hHeld => ?_)
  · (try dsimp only)
    exact ⟨(unhide HK).cb, (unhide HK).c1, (unhide HK).c2⟩
  clear hKk Kk
  (try simp only [List.setIfInBounds_toArray, List.set_cons_zero, List.set_cons_succ])
  refine rdA 3 15 (fun Kk hKk => ?_)
  go_simp
  refine (refCmp_any _ _ _ _ _ _ _ _ _ (unhide H3) (unhide HK).nb).mono ?_
  rw [unhide HV]
  rintro _ w4 ⟨rfl, hbl⟩
  have HK := hide ((unhide HK).below hbl)
  clear hbl H3
  (try go_wp2_with fail)
  refine hKk.out _ _ ?_ (fun hHeld => ?_)
  · (try dsimp only)
    exact ⟨(unhide HK).cb, (unhide HK).c1, (unhide HK).c2⟩
  clear hKk Kk
  (try simp only [List.setIfInBounds_toArray, List.set_cons_zero, List.set_cons_succ])
  refine tkA 4 7 31 ?_
  refine wpAnyH_done (by kernel_rfl) ?_ _
  clear hHeld
  go_wp2_with fail
  have HK := hide ((unhide HK).below ((Below.refl _ _).drew))
  refine wp_region_held_drew (S := fun w' => w'.cell? ⟨w1.heap.size, 0, none⟩ = some (.slice a1 n1 c1) ∧ Room (w.heap.size + 1 + 1) 1 w') (by kernel_rfl) ?_ (fun hHeld => ?_)
  · (try dsimp only)
    exact ⟨(unhide HK).c1, room1 (unhide HK).cr (unhide HK).fr⟩
  refine lst0 4 (by kernel_rfl) ?_
  refine tkA 0 30 1 ?_
  refine rdA 1 3 (fun Kk hKk => ?_)
  go_simp
  refine (refOf_1 _).mono ?_
  rintro _ w8 ⟨s8, rfl, hN8, hbl⟩
  obtain ⟨a8, n8, c8, rfl⟩ := hN8.slice
  have H8 := hide hN8
  have HK := hide ((unhide HK).below hbl)
  clear hbl hN8
  (try go_wp2_with fail)
  refine hKk.out _ _ ?_ (fun hHeld => ?_)
  · (try dsimp only)
    exact ⟨(unhide HK).c1, room1 (unhide HK).cr (unhide HK).fr⟩
  clear hKk Kk
  (try simp only [List.setIfInBounds_toArray, List.set_cons_zero, List.set_cons_succ])
  refine rdA 2 7 (fun Kk hKk => ?_)
  go_simp
  refine (refAdd_any _ _ _ _ _ _ _ _ _ (unhide HK).n1 (unhide H8) (Nat.le_trans ((unhide HK).n1.short (lt_pw 300 (unhide HQ) (by omega))) (by omega)) (Nat.le_trans ((unhide H8).short (k := 1) (by rw [pw_1]; omega)) (by omega))).mono ?_
  rintro _ w9 ⟨s9, rfl, hN9, hbl⟩
  obtain ⟨a9, n9, c9, rfl⟩ := hN9.slice
  have H9 := hide hN9
  have HK := hide ((unhide HK).below hbl)
  clear hbl hN9
  (try go_wp2_with fail)
  refine hKk.out _ _ ?_ (fun hHeld => ?_)
  · (try dsimp only)
    exact ⟨(unhide HK).c1, room1 (unhide HK).cr (unhide HK).fr⟩
  clear hKk Kk
  (try simp only [List.setIfInBounds_toArray, List.set_cons_zero, List.set_cons_succ])
  refine rdA 3 15 (fun Kk hKk => ?_)
  obtain ⟨⟨v0, c0⟩, f0⟩ := hHeld.2 0 (by omega)
  go_simp
  refine hKk.out _ _ ?_ (fun hHeld => ?_)
  · (try dsimp only)
    exact ⟨keep_set _ _ _ (unhide HNE) hHeld.1, hHeld.2.set _ _⟩
  clear hKk Kk
  (try simp only [List.setIfInBounds_toArray, List.set_cons_zero, List.set_cons_succ])
  refine wpAnyH_done (by kernel_rfl) ?_ _
  clear hHeld
  have cr := (unhide HK).cr
  go_wp2_with fail
  refine bodyPost_ret (v := .agg #[.slice a9 n9 c9]) (by simp [results, Try.results75, go_sem, cr]) rfl ⟨_, rfl, (unhide H9).store cr _, ?_⟩
  exact (unhide HK).bel.setCell (by simp; omega) _

set_option maxRecDepth 100000 in
set_option maxHeartbeats 2000000 in
theorem quot_l (a b : Option Addr) (n c m d x y : Nat) (w : World) (hx : IsNat w (.slice a n c) x) (hy : IsNat w (.slice b m d) y) (hy0 : y ≠ 0) (bx : x < pw 300) (hby : y < pw 300) (hv : cmpN (x % y * 2 ^ 1) y = (-1)) :
    Calls Try.prog 75 #[.agg #[.slice a n c], .agg #[.slice b m d]] w fun e w' => ∃ s', e = .returned (.agg #[s']) ∧ IsNat w' s' (x / y) ∧ Below w.heap.size w w' := by
  have HV := hide hv; have HR := hide (Nat.lt_of_le_of_lt (Nat.mod_le x y) bx); have HX := hide hx; have HY := hide hy
  clear hv hx hy
  go_enter Try.func75, Try.ntmps75
  go_wp2_with fail
  refine (refDiv_any a b n c m d x y _ ((unhide HX).below (balloc (below2 _ _ _) _)) ((unhide HY).below (balloc (below2 _ _ _) _)) hy0 bx hby).mono ?_
  rintro _ w1 ⟨s1, s2, rfl, hN1, hN2, hb⟩
  obtain ⟨a1, n1, c1, rfl⟩ := hN1.slice
  obtain ⟨a2, n2, c2, rfl⟩ := hN2.slice
  have hz : w.heap.size + 1 + 1 + 1 ≤ w1.heap.size := by have := hb.size; simp at this; omega
  have HK : Hid (QSt w.heap.size w1.heap.size w (.slice b m d) (.slice a1 n1 c1) (.slice a2 n2 c2) y (x / y) (x % y) ((w1.alloc (.cells #[.slice a1 n1 c1] 57)).alloc (.cells #[.slice a2 n2 c2] 57))) := by
    have hb2 := below2 w1 (.cells #[.slice a1 n1 c1] 57) (.cells #[.slice a2 n2 c2] 57)
    have ha : Below w.heap.size w (((w.alloc (.cells #[.slice a n c] 57)).alloc (.cells #[.slice b m d] 57)).alloc (.cells #[.slice none 0 0] 57)) := balloc (below2 _ _ _) _
    have hB := bthen hb hb2
    exact { cb := by rw [hB.cell (by simp)]; simp [go_sem], c1 := by simp [go_sem], c2 := by simp [go_sem], cr := by rw [hB.cell (by simp)]; simp [go_sem], fr := by rw [hB.frozen (by simp)]; simp [go_sem],
             nb := ((unhide HY).below ha).below hB, n1 := hN1.below hb2, n2 := hN2.below hb2, bel := bthen ha hB }
  clear hb hN1 hN2 HX HY
  go_wp2_with fail
  have HK := hide ((unhide HK).below ((Below.refl _ _).drew))
  refine wp_region_held_drew (S := fun w' => w'.cell? ⟨w.heap.size + 1, 0, none⟩ = some (.slice b m d) ∧ w'.cell? ⟨w1.heap.size, 0, none⟩ = some (.slice a1 n1 c1) ∧ w'.cell? ⟨w1.heap.size + 1, 0, none⟩ = some (.slice a2 n2 c2)) (by kernel_rfl) ?_ (fun hHeld => ?_)
  · (try dsimp only)
    exact ⟨(unhide HK).cb, (unhide HK).c1, (unhide HK).c2⟩
  refine lst0 5 (by kernel_rfl) ?_
  refine tkA 0 14 1 ?_
  refine tkA 2 16 5 ?_
  refine rdA 1 7 (fun Kk hKk => ?_)
  go_simp
  refine (shl_one _ _ _ _ _ (unhide HK).n2 (Nat.le_trans ((unhide HK).n2.short (lt_pw 300 (unhide HR) (by omega))) (by omega))).mono ?_
  rintro _ w3 ⟨s3, rfl, hN3, hbl⟩
  obtain ⟨a3, n3, c3, rfl⟩ := hN3.slice
  have H3 := hide hN3
  have HK := hide ((unhide HK).below hbl)
  clear hbl hN3
  (try go_wp2_with fail)
  refine hKk.out _ _ ?_ (fun hHeld => ?_)
  · (try dsimp only)
    exact ⟨(unhide HK).cb, (unhide HK).c1, (unhide HK).c2⟩
  clear hKk Kk
  (try simp only [List.setIfInBounds_toArray, List.set_cons_zero, List.set_cons_succ])
  refine rdA 3 15 (fun Kk hKk => ?_)
  go_simp
  refine (refCmp_any _ _ _ _ _ _ _ _ _ (unhide H3) (unhide HK).nb).mono ?_
  rw [unhide HV]
  rintro _ w4 ⟨rfl, hbl⟩
  have HK := hide ((unhide HK).below hbl)
  clear hbl H3
  (try go_wp2_with fail)
  refine hKk.out _ _ ?_ (fun hHeld => ?_)
  · (try dsimp only)
    exact ⟨(unhide HK).cb, (unhide HK).c1, (unhide HK).c2⟩
  clear hKk Kk
  (try simp only [List.setIfInBounds_toArray, List.set_cons_zero, List.set_cons_succ])
  refine tkA 4 7 31 ?_
  refine wpAnyH_done (by kernel_rfl) ?_ _
  clear hHeld
  have cr := (unhide HK).cr
  have fr := (unhide HK).fr
  have c1' := (unhide HK).c1
  go_wp2_with fail
  refine bodyPost_ret (v := .agg #[.slice a1 n1 c1]) (by simp [results, Try.results75, go_sem, cr]) rfl ⟨_, rfl, (unhide HK).n1.store cr _, ?_⟩
  exact (unhide HK).bel.setCell (by simp; omega) _

set_option maxRecDepth 100000 in
set_option maxHeartbeats 2000000 in
theorem quot_o {L : Int} (a b : Option Addr) (n c m d x y : Nat) (w : World) (hx : IsNat w (.slice a n c) x) (hy : IsNat w (.slice b m d) y) (hy0 : y ≠ 0) (bx : x < pw 300) (hby : y < pw 300) (hv : cmpN (x % y * 2 ^ 1) y = 0) (hl : lo (x / y) = L) (km : L.tmod 2 = 1) :
    Calls Try.prog 75 #[.agg #[.slice a n c], .agg #[.slice b m d]] w fun e w' => ∃ s', e = .returned (.agg #[s']) ∧ IsNat w' s' (x / y + 1) ∧ Below w.heap.size w w' := by
  have HV := hide hv; have HR := hide (Nat.lt_of_le_of_lt (Nat.mod_le x y) bx); have HX := hide hx; have HY := hide hy
  have HQ := hide (Nat.lt_of_le_of_lt (Nat.div_le_self x y) bx)
  have HL := hide hl
  clear hl
  clear hv hx hy
  go_enter Try.func75, Try.ntmps75
  go_wp2_with fail
  refine (refDiv_any a b n c m d x y _ ((unhide HX).below (balloc (below2 _ _ _) _)) ((unhide HY).below (balloc (below2 _ _ _) _)) hy0 bx hby).mono ?_
  rintro _ w1 ⟨s1, s2, rfl, hN1, hN2, hb⟩
  obtain ⟨a1, n1, c1, rfl⟩ := hN1.slice
  obtain ⟨a2, n2, c2, rfl⟩ := hN2.slice
  have hz : w.heap.size + 1 + 1 + 1 ≤ w1.heap.size := by have := hb.size; simp at this; omega
  have HNE : Hid (w1.heap.size ≠ w.heap.size + 1 + 1) := by unfold Hid; omega
  have HK : Hid (QSt w.heap.size w1.heap.size w (.slice b m d) (.slice a1 n1 c1) (.slice a2 n2 c2) y (x / y) (x % y) ((w1.alloc (.cells #[.slice a1 n1 c1] 57)).alloc (.cells #[.slice a2 n2 c2] 57))) := by
    have hb2 := below2 w1 (.cells #[.slice a1 n1 c1] 57) (.cells #[.slice a2 n2 c2] 57)
    have ha : Below w.heap.size w (((w.alloc (.cells #[.slice a n c] 57)).alloc (.cells #[.slice b m d] 57)).alloc (.cells #[.slice none 0 0] 57)) := balloc (below2 _ _ _) _
    have hB := bthen hb hb2
    exact { cb := by rw [hB.cell (by simp)]; simp [go_sem], c1 := by simp [go_sem], c2 := by simp [go_sem], cr := by rw [hB.cell (by simp)]; simp [go_sem], fr := by rw [hB.frozen (by simp)]; simp [go_sem],
             nb := ((unhide HY).below ha).below hB, n1 := hN1.below hb2, n2 := hN2.below hb2, bel := bthen ha hB }
  clear hb hN1 hN2 HX HY
  go_wp2_with fail
  have HK := hide ((unhide HK).below ((Below.refl _ _).drew))
  refine wp_region_held_drew (S := fun w' => w'.cell? ⟨w.heap.size + 1, 0, none⟩ = some (.slice b m d) ∧ w'.cell? ⟨w1.heap.size, 0, none⟩ = some (.slice a1 n1 c1) ∧ w'.cell? ⟨w1.heap.size + 1, 0, none⟩ = some (.slice a2 n2 c2)) (by kernel_rfl) ?_ (fun hHeld => ?_)
  · (try dsimp only)
    exact ⟨(unhide HK).cb, (unhide HK).c1, (unhide HK).c2⟩
  refine lst0 5 (by kernel_rfl) ?_
  refine tkA 0 14 1 ?_
  refine tkA 2 16 5 ?_
  refine rdA 1 7 (fun Kk hKk => ?_)
  go_simp
  refine (shl_one _ _ _ _ _ (unhide HK).n2 (Nat.le_trans ((unhide HK).n2.short (lt_pw 300 (unhide HR) (by omega))) (by omega))).mono ?_
  rintro _ w3 ⟨s3, rfl, hN3, hbl⟩
  obtain ⟨a3, n3, c3, rfl⟩ := hN3.slice
  have H3 := hide hN3
  have HK := hide ((unhide HK).below hbl)
  clear hbl hN3
  (try go_wp2_with fail)
  refine hKk.out _ _ ?_ (fun hHeld => ?_)
  · (try dsimp only)
    exact ⟨(unhide HK).cb, (unhide HK).c1, (unhide HK).c2⟩
  clear hKk Kk
  (try simp only [List.setIfInBounds_toArray, List.set_cons_zero, List.set_cons_succ])
  refine rdA 3 15 (fun Kk hKk => ?_)
  go_simp
  refine (refCmp_any _ _ _ _ _ _ _ _ _ (unhide H3) (unhide HK).nb).mono ?_
  rw [unhide HV]
  rintro _ w4 ⟨rfl, hbl⟩
  have HK := hide ((unhide HK).below hbl)
  clear hbl H3
  (try go_wp2_with fail)
  refine hKk.out _ _ ?_ (fun hHeld => ?_)
  · (try dsimp only)
    exact ⟨(unhide HK).cb, (unhide HK).c1, (unhide HK).c2⟩
  clear hKk Kk
  (try simp only [List.setIfInBounds_toArray, List.set_cons_zero, List.set_cons_succ])
  refine tkA 4 7 31 ?_
  refine wpAnyH_done (by kernel_rfl) ?_ _
  clear hHeld
  have c1' := (unhide HK).c1
  go_wp2_with fail
  refine (uint_any _ _ _ _ _ (unhide HK).n1).mono ?_
  rw [unhide HL]
  rintro _ w5 ⟨rfl, hbl⟩
  have HK := hide ((unhide HK).below hbl)
  clear hbl c1'
  go_wp2_with fail
  have HK := hide ((unhide HK).below ((Below.refl _ _).drew))
  refine wp_region_held_drew (S := fun w' => w'.cell? ⟨w1.heap.size, 0, none⟩ = some (.slice a1 n1 c1) ∧ Room (w.heap.size + 1 + 1) 1 w') (by kernel_rfl) ?_ (fun hHeld => ?_)
  · (try dsimp only)
    exact ⟨(unhide HK).c1, room1 (unhide HK).cr (unhide HK).fr⟩
  refine lst0 4 (by kernel_rfl) ?_
  refine tkA 0 30 1 ?_
  refine rdA 1 3 (fun Kk hKk => ?_)
  go_simp
  refine (refOf_1 _).mono ?_
  rintro _ w8 ⟨s8, rfl, hN8, hbl⟩
  obtain ⟨a8, n8, c8, rfl⟩ := hN8.slice
  have H8 := hide hN8
  have HK := hide ((unhide HK).below hbl)
  clear hbl hN8
  (try go_wp2_with fail)
  refine hKk.out _ _ ?_ (fun hHeld => ?_)
  · (try dsimp only)
    exact ⟨(unhide HK).c1, room1 (unhide HK).cr (unhide HK).fr⟩
  clear hKk Kk
  (try simp only [List.setIfInBounds_toArray, List.set_cons_zero, List.set_cons_succ])
  refine rdA 2 7 (fun Kk hKk => ?_)
  go_simp
  refine (refAdd_any _ _ _ _ _ _ _ _ _ (unhide HK).n1 (unhide H8) (Nat.le_trans ((unhide HK).n1.short (lt_pw 300 (unhide HQ) (by omega))) (by omega)) (Nat.le_trans ((unhide H8).short (k := 1) (by rw [pw_1]; omega)) (by omega))).mono ?_
  rintro _ w9 ⟨s9, rfl, hN9, hbl⟩
  obtain ⟨a9, n9, c9, rfl⟩ := hN9.slice
  have H9 := hide hN9
  have HK := hide ((unhide HK).below hbl)
  clear hbl hN9
  (try go_wp2_with fail)
  refine hKk.out _ _ ?_ (fun hHeld => ?_)
  · (try dsimp only)
    exact ⟨(unhide HK).c1, room1 (unhide HK).cr (unhide HK).fr⟩
  clear hKk Kk
  (try simp only [List.setIfInBounds_toArray, List.set_cons_zero, List.set_cons_succ])
  refine rdA 3 15 (fun Kk hKk => ?_)
  obtain ⟨⟨v0, c0⟩, f0⟩ := hHeld.2 0 (by omega)
  go_simp
  refine hKk.out _ _ ?_ (fun hHeld => ?_)
  · (try dsimp only)
    exact ⟨keep_set _ _ _ (unhide HNE) hHeld.1, hHeld.2.set _ _⟩
  clear hKk Kk
  (try simp only [List.setIfInBounds_toArray, List.set_cons_zero, List.set_cons_succ])
  refine wpAnyH_done (by kernel_rfl) ?_ _
  clear hHeld
  have cr := (unhide HK).cr
  go_wp2_with fail
  refine bodyPost_ret (v := .agg #[.slice a9 n9 c9]) (by simp [results, Try.results75, go_sem, cr]) rfl ⟨_, rfl, (unhide H9).store cr _, ?_⟩
  exact (unhide HK).bel.setCell (by simp; omega) _

set_option maxRecDepth 100000 in
set_option maxHeartbeats 2000000 in
theorem quot_e {L : Int} (a b : Option Addr) (n c m d x y : Nat) (w : World) (hx : IsNat w (.slice a n c) x) (hy : IsNat w (.slice b m d) y) (hy0 : y ≠ 0) (bx : x < pw 300) (hby : y < pw 300) (hv : cmpN (x % y * 2 ^ 1) y = 0) (hl : lo (x / y) = L) (km : L.tmod 2 = 0) :
    Calls Try.prog 75 #[.agg #[.slice a n c], .agg #[.slice b m d]] w fun e w' => ∃ s', e = .returned (.agg #[s']) ∧ IsNat w' s' (x / y) ∧ Below w.heap.size w w' := by
  have HV := hide hv; have HR := hide (Nat.lt_of_le_of_lt (Nat.mod_le x y) bx); have HX := hide hx; have HY := hide hy
  have HL := hide hl
  clear hl
  clear hv hx hy
  go_enter Try.func75, Try.ntmps75
  go_wp2_with fail
  refine (refDiv_any a b n c m d x y _ ((unhide HX).below (balloc (below2 _ _ _) _)) ((unhide HY).below (balloc (below2 _ _ _) _)) hy0 bx hby).mono ?_
  rintro _ w1 ⟨s1, s2, rfl, hN1, hN2, hb⟩
  obtain ⟨a1, n1, c1, rfl⟩ := hN1.slice
  obtain ⟨a2, n2, c2, rfl⟩ := hN2.slice
  have hz : w.heap.size + 1 + 1 + 1 ≤ w1.heap.size := by have := hb.size; simp at this; omega
  have HK : Hid (QSt w.heap.size w1.heap.size w (.slice b m d) (.slice a1 n1 c1) (.slice a2 n2 c2) y (x / y) (x % y) ((w1.alloc (.cells #[.slice a1 n1 c1] 57)).alloc (.cells #[.slice a2 n2 c2] 57))) := by
    have hb2 := below2 w1 (.cells #[.slice a1 n1 c1] 57) (.cells #[.slice a2 n2 c2] 57)
    have ha : Below w.heap.size w (((w.alloc (.cells #[.slice a n c] 57)).alloc (.cells #[.slice b m d] 57)).alloc (.cells #[.slice none 0 0] 57)) := balloc (below2 _ _ _) _
    have hB := bthen hb hb2
    exact { cb := by rw [hB.cell (by simp)]; simp [go_sem], c1 := by simp [go_sem], c2 := by simp [go_sem], cr := by rw [hB.cell (by simp)]; simp [go_sem], fr := by rw [hB.frozen (by simp)]; simp [go_sem],
             nb := ((unhide HY).below ha).below hB, n1 := hN1.below hb2, n2 := hN2.below hb2, bel := bthen ha hB }
  clear hb hN1 hN2 HX HY
  go_wp2_with fail
  have HK := hide ((unhide HK).below ((Below.refl _ _).drew))
  refine wp_region_held_drew (S := fun w' => w'.cell? ⟨w.heap.size + 1, 0, none⟩ = some (.slice b m d) ∧ w'.cell? ⟨w1.heap.size, 0, none⟩ = some (.slice a1 n1 c1) ∧ w'.cell? ⟨w1.heap.size + 1, 0, none⟩ = some (.slice a2 n2 c2)) (by kernel_rfl) ?_ (fun hHeld => ?_)
  · (try dsimp only)
    exact ⟨(unhide HK).cb, (unhide HK).c1, (unhide HK).c2⟩
  refine lst0 5 (by kernel_rfl) ?_
  refine tkA 0 14 1 ?_
  refine tkA 2 16 5 ?_
  refine rdA 1 7 (fun Kk hKk => ?_)
  go_simp
  refine (shl_one _ _ _ _ _ (unhide HK).n2 (Nat.le_trans ((unhide HK).n2.short (lt_pw 300 (unhide HR) (by omega))) (by omega))).mono ?_
  rintro _ w3 ⟨s3, rfl, hN3, hbl⟩
  obtain ⟨a3, n3, c3, rfl⟩ := hN3.slice
  have H3 := hide hN3
  have HK := hide ((unhide HK).below hbl)
  clear hbl hN3
  (try go_wp2_with fail)
  refine hKk.out _ _ ?_ (fun hHeld => ?_)
  · (try dsimp only)
    exact ⟨(unhide HK).cb, (unhide HK).c1, (unhide HK).c2⟩
  clear hKk Kk
  (try simp only [List.setIfInBounds_toArray, List.set_cons_zero, List.set_cons_succ])
  refine rdA 3 15 (fun Kk hKk => ?_)
  go_simp
  refine (refCmp_any _ _ _ _ _ _ _ _ _ (unhide H3) (unhide HK).nb).mono ?_
  rw [unhide HV]
  rintro _ w4 ⟨rfl, hbl⟩
  have HK := hide ((unhide HK).below hbl)
  clear hbl H3
  (try go_wp2_with fail)
  refine hKk.out _ _ ?_ (fun hHeld => ?_)
  · (try dsimp only)
    exact ⟨(unhide HK).cb, (unhide HK).c1, (unhide HK).c2⟩
  clear hKk Kk
  (try simp only [List.setIfInBounds_toArray, List.set_cons_zero, List.set_cons_succ])
  refine tkA 4 7 31 ?_
  refine wpAnyH_done (by kernel_rfl) ?_ _
  clear hHeld
  have c1' := (unhide HK).c1
  go_wp2_with fail
  refine (uint_any _ _ _ _ _ (unhide HK).n1).mono ?_
  rw [unhide HL]
  rintro _ w5 ⟨rfl, hbl⟩
  have HK := hide ((unhide HK).below hbl)
  clear hbl c1'
  have cr := (unhide HK).cr
  have fr := (unhide HK).fr
  have c1' := (unhide HK).c1
  go_wp2_with fail
  refine bodyPost_ret (v := .agg #[.slice a1 n1 c1]) (by simp [results, Try.results75, go_sem, cr]) rfl ⟨_, rfl, (unhide HK).n1.store cr _, ?_⟩
  exact (unhide HK).bel.setCell (by simp; omega) _

theorem quot_any (a b : Option Addr) (n c m d x y : Nat) (w : World) (hx : IsNat w (.slice a n c) x) (hy : IsNat w (.slice b m d) y) (hy0 : y ≠ 0) (bx : x < pw 300) (hby : y < pw 300) :
    Calls Try.prog 75 #[.agg #[.slice a n c], .agg #[.slice b m d]] w fun e w' => ∃ s', e = .returned (.agg #[s']) ∧ IsNat w' s' (near x y) ∧ Below w.heap.size w w' := by
  have hl : lo (x / y) = ((x / y % 18446744073709551616 : Nat) : Int) := rfl
  unfold near
  by_cases h1 : y < 2 * (x % y)
  · rw [if_pos (Or.inl h1)]
    exact quot_g a b n c m d x y w hx hy hy0 bx hby (by unfold cmpN; rw [if_neg (by omega), if_pos (by omega)])
  · by_cases h2 : 2 * (x % y) = y
    · have hv : cmpN (x % y * 2 ^ 1) y = 0 := by unfold cmpN; rw [if_neg (by omega), if_neg (by omega)]
      by_cases h3 : x / y % 2 = 1
      · rw [if_pos (Or.inr ⟨h2, h3⟩)]
        refine quot_o a b n c m d x y w hx hy hy0 bx hby hv hl ?_
        rw [Int.tmod_eq_emod_of_nonneg (by omega)]
        omega
      · rw [if_neg (by omega)]
        refine quot_e a b n c m d x y w hx hy hy0 bx hby hv hl ?_
        rw [Int.tmod_eq_emod_of_nonneg (by omega)]
        omega
    · rw [if_neg (by omega)]
      exact quot_l a b n c m d x y w hx hy hy0 bx hby (by unfold cmpN; rw [if_pos (by omega)])

end Go.Proofs.Ytahdcbjfabccpaa
