/- RfA, RfB. -/
import Derived.Test.YtjoonmpjcophnaaGreatDoorLo14
import Derived.Test.YtjoonmpjcophnaaGreatDoorLo22
namespace Go.Proofs.YtjoonmpjcophnaaGreatDoor
open Go.RowKit

set_option maxHeartbeats 1000000 in
set_option maxRecDepth 100000 in
theorem rBack_any {c : Nat} {a : Option Addr} {len cap k : Nat} {xs : List Int} {e : Int} {k0 : Nat} {W : World} (h : Cs c a len cap xs k e W) (hk : k0 ≤ len) :
    Calls Tryz.prog 71 #[.pointer (some ⟨c, 0, none⟩), .int .i64 (k0 : Int)] W fun r W' => r = .returned (.tuple #[]) ∧ Cs c a len cap xs (back e k k0) e W' ∧ Fr [c] W W' := by
  have h2 := h.1.2.2.1
  have h1 := h.1.2.1
  have h3 := h.1.2.2.2 1 (by decide)
  have H := hide h
  clear h
  by_cases he : e = 0
  · subst he
    go_enter Tryz.func71, Tryz.ntmps71
    go_wp2_with fail
    exact bodyPost_end (results_none rfl _ _ _) rfl ⟨rfl, unhide H, Fr.refl _ _⟩
  · have d : (e != 0) = true := bne_iff_ne.2 he
    rw [back_e he]
    go_enter Tryz.func71, Tryz.ntmps71
    go_wp2_with fail
    exact bodyPost_end (results_none rfl _ _ _) rfl ⟨rfl, (unhide H).place k0 hk, (Fr.refl _ _).place _ _⟩
set_option maxHeartbeats 1000000 in
set_option maxRecDepth 100000 in
theorem rFail_any {c : Nat} {a : Option Addr} {len cap k : Nat} {xs : List Int} {e x : Int} {W : World} (h : Cs c a len cap xs k e W) :
    Calls Tryz.prog 23 #[.pointer (some ⟨c, 0, none⟩), .int .i64 x] W fun r W' => r = .returned (.tuple #[]) ∧ Cs c a len cap xs k (if e = 0 then x else e) W' ∧ Fr [c] W W' := by
  have h2 := h.1.2.2.1
  have h3 := h.1.2.2.2 2 (by decide)
  have H := hide h
  clear h
  by_cases he : e = 0
  · subst he
    go_enter Tryz.func23, Tryz.ntmps23
    go_wp2_with fail
    exact bodyPost_end (results_none rfl _ _ _) rfl ⟨rfl, (unhide H).err x, (Fr.refl _ _).place _ _⟩
  · have d : (e == 0) = false := beq_eq_false_iff_ne.2 he
    rw [if_neg he]
    go_enter Tryz.func23, Tryz.ntmps23
    go_wp2_with fail
    exact bodyPost_end (results_none rfl _ _ _) rfl ⟨rfl, unhide H, Fr.refl _ _⟩
theorem lift_rB_in {xs : List Int} {k : Nat} (h : k < xs.length) : lift rB 0 xs k 0 = (xs.getD k 0, k + 1, 0) := by
  rw [lift_0, List.drop_eq_getElem_cons h, List.getD_eq_getElem?_getD, List.getElem?_eq_getElem h]
  rfl
theorem lift_rB_end {xs : List Int} {k : Nat} (h : xs.length ≤ k) : lift rB 0 xs k 0 = (0, k, 100) := by
  rw [lift_0, List.drop_eq_nil_of_le h]
  rfl
set_option maxHeartbeats 1000000 in
set_option maxRecDepth 100000 in
theorem rByte_any {c : Nat} {a : Option Addr} {len cap k : Nat} {xs : List Int} {e : Int} {W : World} (h : Cs c a len cap xs k e W) :
    Calls Tryz.prog 22 #[.pointer (some ⟨c, 0, none⟩)] W fun r W' => r = .returned (.int .u8 (lift rB 0 xs k e).1) ∧ Cs c a len cap xs (lift rB 0 xs k e).2.1 (lift rB 0 xs k e).2.2 W' ∧ Fr [c] W W' := by
  have h2 := h.1.2.2.1
  have H := hide h
  by_cases he : e = 0
  · subst he
    have h0 := h.1.1
    have h1 := h.1.2.1
    have h3 := h.1.2.2.2 1 (by decide)
    have h4 := h.1.2.2.2 2 (by decide)
    have hl := h.2.2.2.2.2
    have hx := h.2.1.1
    by_cases hk : k < len
    · rw [lift_rB_in (by omega)]
      have hc := h.2.1.2.1
      rcases h.2.1.2.2.2 with ⟨_, q, _⟩ | ⟨b, off, rfl, hy⟩
      · omega
      have hyk := hy k hk
      have hbc := h.2.2.1 ⟨b, off, none⟩ rfl (by omega)
      dsimp only at hbc
      clear h hy
      have hk' : ¬ (len : Int) ≤ k := by omega
      generalize xs.getD k 0 = y at *
      go_enter Tryz.func22, Tryz.ntmps22
      go_wp2_with fail
      go_quiet (fail)
      go_wp2_with fail
      have H := hide (((unhide H).bel (below_drewN (Below.refl _ _) nq)).at' (k + 1) (by omega) ((k : Int) + 1) (by omega))
      have HF := hide (((Fr.refl [c] W).drewN nq).place 1 (.int .i64 ((k : Int) + 1)))
      have hyk := (unhide HF).keep hyk (by simpa using hbc)
      obtain ⟨h0, h1, h2, hz⟩ := (unhide H).1
      clear hz h2 h3 h4
      generalize World.setCell (W.drewN nq) _ _ = w2 at *
      go_quiet (fail)
      go_wp2_with fail
      go_ret
      exact ⟨rfl, (unhide H).bel (below_drewN (Below.refl _ _) _), (unhide HF).drewN _⟩
    · obtain rfl : k = len := by have := h.2.2.2.2.1; omega
      rw [lift_rB_end (by omega)]
      clear h
      go_enter Tryz.func22, Tryz.ntmps22
      go_wp2_with fail
      go_quiet (fail)
      go_wp2_with fail
      go_ret
      exact ⟨rfl, ((unhide H).bel (below_drewN (Below.refl _ _) _)).err 100, ((Fr.refl _ _).drewN _).place _ _⟩
  · rw [lift_e _ _ _ _ he]
    clear h
    have d : (e != 0) = true := bne_iff_ne.2 he
    go_enter Tryz.func22, Tryz.ntmps22
    go_wp2_with fail
    go_ret
    exact ⟨rfl, unhide H, Fr.refl _ _⟩
end Go.Proofs.YtjoonmpjcophnaaGreatDoor
namespace Go.Proofs.YtjoonmpjcophnaaGreatDoor
open Go.RowKit

set_option maxHeartbeats 1000000 in
set_option maxRecDepth 100000 in
theorem rUint1 {c : Nat} {a : Option Addr} {len cap k : Nat} {xs : List Int} {k1 : Nat} {y e1 : Int} {b : Nat} {W : World} (HU : Hid (∀ W, Sl W a len cap xs → Calls Tryz.prog 72 #[.slice a len cap, .int .i64 (k : Int), .int .i64 (b : Int)] W fun r W' => r = .returned (.tuple #[.int .u64 y, .int .i64 (k1 : Int), .int .i64 e1]) ∧ Below W.heap.size W W')) (hk1 : k1 ≤ len) 
    (h : Cs c a len cap xs k 0 W) : Calls Tryz.prog 43 #[.pointer (some ⟨c, 0, none⟩), .int .i64 (b : Int)] W fun r W' => r = .returned (.int .u64 (pk e1 y 0)) ∧ Cs c a len cap xs (back e1 k1 k) e1 W' ∧ Fr [c] W W' := by
  have h2 := h.1.2.2.1
  have H := hide h.drew
  have HF := hide ((Fr.refl [c] W).drew)
  have HK := hide hk1
  clear h hk1
  by_cases he : e1 = 0
  · subst he
    rw [pk_0, back_0]
    go_enter Tryz.func43, Tryz.ntmps43
    go_wp2_with fail
    clear h2
    refine wp_region_held_drew (S := fun w' => w'.cell? ⟨c, 0, none⟩ = some (.slice a len cap) ∧ w'.cell? ⟨c, 1, none⟩ = some (.int .i64 (k : Int))) (by kernel_rfl) ?_ (fun hHeld => ?_)
    · (try dsimp only)
      exact ⟨(unhide H).1.1, (unhide H).1.2.1⟩
    refine lst0 17 (by kernel_rfl) ?_
    refine tkA 0 14 1 ?_
    refine tkA 1 15 3 ?_
    refine tkA 2 16 7 ?_
    refine tkA 3 17 15 ?_
    refine tkA 4 18 31 ?_
    refine tkA 5 19 63 ?_
    refine tkA 6 20 127 ?_
    refine tkA 7 21 255 ?_
    refine tkA 8 22 511 ?_
    refine rdA 9 1023 (fun Kk hKk => ?_)
    go_simp
    refine (unhide HU _ (unhide H).2.1).mono ?_
    rintro _ w1 ⟨rfl, hb⟩
    have H := hide ((unhide H).bel hb)
    have HF := hide ((unhide HF).bel hb)
    clear hb
    (try go_wp2_with fail)
    refine hKk.out _ _ ?_ (fun hHeld => ?_)
    · (try dsimp only)
      exact ⟨(unhide H).1.1, (unhide H).1.2.1⟩
    clear hKk Kk
    (try simp only [List.setIfInBounds_toArray, List.set_cons_zero, List.set_cons_succ])
    refine tkA 10 13 2047 ?_
    refine tkA 11 24 4095 ?_
    refine tkA 12 25 8191 ?_
    refine tkA 13 26 16383 ?_
    refine tkA 14 5 32767 ?_
    refine tkA 15 6 65535 ?_
    refine tkA 16 7 131071 ?_
    refine wpAnyH_done (by kernel_rfl) ?_ _
    obtain ⟨q0, q1, q2, qz⟩ := (unhide H).1
    have f1 := qz 1 (by decide)
    clear qz q0
    go_wp2_with fail
    go_ret
    exact ⟨rfl, (unhide H).place k1 (unhide HK), (unhide HF).place _ _⟩
  · rw [pk_e he, back_e he]
    have d : (e1 != 0) = true := bne_iff_ne.2 he
    go_enter Tryz.func43, Tryz.ntmps43
    go_wp2_with fail
    clear h2
    refine wp_region_held_drew (S := fun w' => w'.cell? ⟨c, 0, none⟩ = some (.slice a len cap) ∧ w'.cell? ⟨c, 1, none⟩ = some (.int .i64 (k : Int))) (by kernel_rfl) ?_ (fun hHeld => ?_)
    · (try dsimp only)
      exact ⟨(unhide H).1.1, (unhide H).1.2.1⟩
    refine lst0 17 (by kernel_rfl) ?_
    refine tkA 0 14 1 ?_
    refine tkA 1 15 3 ?_
    refine tkA 2 16 7 ?_
    refine tkA 3 17 15 ?_
    refine tkA 4 18 31 ?_
    refine tkA 5 19 63 ?_
    refine tkA 6 20 127 ?_
    refine tkA 7 21 255 ?_
    refine tkA 8 22 511 ?_
    refine rdA 9 1023 (fun Kk hKk => ?_)
    go_simp
    refine (unhide HU _ (unhide H).2.1).mono ?_
    rintro _ w1 ⟨rfl, hb⟩
    have H := hide ((unhide H).bel hb)
    have HF := hide ((unhide HF).bel hb)
    clear hb
    (try go_wp2_with fail)
    refine hKk.out _ _ ?_ (fun hHeld => ?_)
    · (try dsimp only)
      exact ⟨(unhide H).1.1, (unhide H).1.2.1⟩
    clear hKk Kk
    (try simp only [List.setIfInBounds_toArray, List.set_cons_zero, List.set_cons_succ])
    refine tkA 10 13 2047 ?_
    refine tkA 11 24 4095 ?_
    refine tkA 12 25 8191 ?_
    refine tkA 13 26 16383 ?_
    refine tkA 14 5 32767 ?_
    refine tkA 15 6 65535 ?_
    refine tkA 16 7 131071 ?_
    refine wpAnyH_done (by kernel_rfl) ?_ _
    obtain ⟨q0, q1, q2, qz⟩ := (unhide H).1
    have f1 := qz 2 (by decide)
    clear qz q0
    go_wp2_with fail
    go_ret
    exact ⟨rfl, (unhide H).err e1, (unhide HF).place _ _⟩
theorem rUint_any {c : Nat} {a : Option Addr} {len cap k : Nat} {xs : List Int} {e : Int} {b : Nat} {W : World} (h : Cs c a len cap xs k e W) (b0 : 1 ≤ b) (b1 : b ≤ 64) :
    Calls Tryz.prog 43 #[.pointer (some ⟨c, 0, none⟩), .int .i64 (b : Int)] W fun r W' => r = .returned (.int .u64 (lift (rU b) 0 xs k e).1) ∧ Cs c a len cap xs (lift (rU b) 0 xs k e).2.1 (lift (rU b) 0 xs k e).2.2 W' ∧ Fr [c] W W' := by
  by_cases he : e = 0
  · subst he
    have hx := h.2.2.2.1
    have hk := h.2.2.2.2.1
    have hl : (xs.drop k).length = len - k := by rw [List.length_drop, h.2.1.1]
    have hg := rd_len (V := VU) (ok := okU) (xs.drop k) b
    have hL := lift_any (gd_U b) xs k (if (rd VU okU (xs.drop k) b).2.2 = 0 then k + (rU b (xs.drop k)).2.1 else 0) (rU b (xs.drop k)).1 (rU b (xs.drop k)).2.2 rfl (fun h0 => ⟨if_pos (by unfold rU at h0; exact Int.ofNat.inj h0), rfl⟩)
    rw [hL]
    refine rUint1 (hide fun W hS => by
      have := refUint_any (hide hx) _ k b W (hide hS) (Nat.le_refl _) hk b0 b1
      rw [out_U] at this
      exact this) ?_ h
    split
    · show k + (rd VU okU (xs.drop k) b).2.1 ≤ len
      omega
    · omega
  · rw [lift_e _ _ _ _ he]
    have h2 := h.1.2.2.1
    have H := hide h
    clear h
    have d : (e != 0) = true := bne_iff_ne.2 he
    go_enter Tryz.func43, Tryz.ntmps43
    go_wp2_with fail
    go_ret
    exact ⟨rfl, unhide H, Fr.refl _ _⟩
end Go.Proofs.YtjoonmpjcophnaaGreatDoor
