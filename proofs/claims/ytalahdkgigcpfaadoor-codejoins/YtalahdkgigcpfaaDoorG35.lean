/- RfB. -/
import Derived.Test.YtalahdkgigcpfaaDoorG32
namespace Go.Proofs.YtalahdkgigcpfaaDoor
open Go.RowKit

set_option maxHeartbeats 1000000 in
set_option maxRecDepth 100000 in
theorem rUint1 {c : Nat} {a : Option Addr} {len cap k : Nat} {xs : List Int} {k1 : Nat} {y e1 : Int} {b : Nat} {W : World} (HU : Hid (∀ W, Sl W a len cap xs → Calls Tryd.prog 78 #[.slice a len cap, .int .i64 (k : Int), .int .i64 (b : Int)] W fun r W' => r = .returned (.tuple #[.int .u64 y, .int .i64 (k1 : Int), .int .i64 e1]) ∧ Below W.heap.size W W')) (hk1 : k1 ≤ len) 
    (h : Cs c a len cap xs k 0 W) : Calls Tryd.prog 60 #[.pointer (some ⟨c, 0, none⟩), .int .i64 (b : Int)] W fun r W' => r = .returned (.int .u64 (pk e1 y 0)) ∧ Cs c a len cap xs (back e1 k1 k) e1 W' ∧ Fr [c] W W' := by
  have h2 := h.1.2.2.1
  have H := hide h.drew
  have HF := hide ((Fr.refl [c] W).drew)
  have HK := hide hk1
  clear h hk1
  by_cases he : e1 = 0
  · subst he
    rw [pk_0, back_0]
    go_enter Tryd.func60, Tryd.ntmps60
    go_wp2_with fail
    clear h2
    refine wp_region_held_drew (S := fun w' => w'.cell? ⟨c, 0, none⟩ = some (.slice a len cap) ∧ w'.cell? ⟨c, 1, none⟩ = some (.int .i64 (k : Int))) (by kernel_rfl) ?_ (fun hHeld => ?_)
    · (try dsimp only)
      exact ⟨(unhide H).1.1, (unhide H).1.2.1⟩
    refine lst0 17 (by kernel_rfl) ?_
    refine tkA 0 14 1 ?_
    refine tkA 1 15 3 ?_
    refine tkA 2 16 7 ?_
    refine tkA 3 17 15 ?_
    refine tkA 4 18 31 ?_
    refine tkA 5 19 63 ?_
    refine tkA 6 20 127 ?_
    refine tkA 7 21 255 ?_
    refine tkA 8 22 511 ?_
    refine rdA 9 1023 (fun Kk hKk => ?_)
    go_simp
    refine (unhide HU _ (unhide H).2.1).mono ?_
    rintro _ w1 ⟨rfl, hb⟩
    have H := hide ((unhide H).bel hb)
    have HF := hide ((unhide HF).bel hb)
    clear hb
    (try go_wp2_with fail)
    refine hKk.out _ _ ?_ (fun hHeld => ?_)
    · (try dsimp only)
      exact ⟨(unhide H).1.1, (unhide H).1.2.1⟩
    clear hKk Kk
    (try simp only [List.setIfInBounds_toArray, List.set_cons_zero, List.set_cons_succ])
    refine tkA 10 13 2047 ?_
    refine tkA 11 24 4095 ?_
    refine tkA 12 25 8191 ?_
    refine tkA 13 26 16383 ?_
    refine tkA 14 5 32767 ?_
    refine tkA 15 6 65535 ?_
    refine tkA 16 7 131071 ?_
    refine wpAnyH_done (by kernel_rfl) ?_ _
    obtain ⟨q0, q1, q2, qz⟩ := (unhide H).1
    have f1 := qz 1 (by decide)
    clear qz q0
    go_wp2_with fail
    go_ret
    exact ⟨rfl, (unhide H).place k1 (unhide HK), (unhide HF).place _ _⟩
  · rw [pk_e he, back_e he]
    have d : (e1 != 0) = true := bne_iff_ne.2 he
    go_enter Tryd.func60, Tryd.ntmps60
    go_wp2_with fail
    clear h2
    refine wp_region_held_drew (S := fun w' => w'.cell? ⟨c, 0, none⟩ = some (.slice a len cap) ∧ w'.cell? ⟨c, 1, none⟩ = some (.int .i64 (k : Int))) (by kernel_rfl) ?_ (fun hHeld => ?_)
    · (try dsimp only)
      exact ⟨(unhide H).1.1, (unhide H).1.2.1⟩
    refine lst0 17 (by kernel_rfl) ?_
    refine tkA 0 14 1 ?_
    refine tkA 1 15 3 ?_
    refine tkA 2 16 7 ?_
    refine tkA 3 17 15 ?_
    refine tkA 4 18 31 ?_
    refine tkA 5 19 63 ?_
    refine tkA 6 20 127 ?_
    refine tkA 7 21 255 ?_
    refine tkA 8 22 511 ?_
    refine rdA 9 1023 (fun Kk hKk => ?_)
    go_simp
    refine (unhide HU _ (unhide H).2.1).mono ?_
    rintro _ w1 ⟨rfl, hb⟩
    have H := hide ((unhide H).bel hb)
    have HF := hide ((unhide HF).bel hb)
    clear hb
    (try go_wp2_with fail)
    refine hKk.out _ _ ?_ (fun hHeld => ?_)
    · (try dsimp only)
      exact ⟨(unhide H).1.1, (unhide H).1.2.1⟩
    clear hKk Kk
    (try simp only [List.setIfInBounds_toArray, List.set_cons_zero, List.set_cons_succ])
    refine tkA 10 13 2047 ?_
    refine tkA 11 24 4095 ?_
    refine tkA 12 25 8191 ?_
    refine tkA 13 26 16383 ?_
    refine tkA 14 5 32767 ?_
    refine tkA 15 6 65535 ?_
    refine tkA 16 7 131071 ?_
    refine wpAnyH_done (by kernel_rfl) ?_ _
    obtain ⟨q0, q1, q2, qz⟩ := (unhide H).1
    have f1 := qz 2 (by decide)
    clear qz q0
    go_wp2_with fail
    go_ret
    exact ⟨rfl, (unhide H).err e1, (unhide HF).place _ _⟩
theorem rUint_any {c : Nat} {a : Option Addr} {len cap k : Nat} {xs : List Int} {e : Int} {b : Nat} {W : World} (h : Cs c a len cap xs k e W) (b0 : 1 ≤ b) (b1 : b ≤ 64) :
    Calls Tryd.prog 60 #[.pointer (some ⟨c, 0, none⟩), .int .i64 (b : Int)] W fun r W' => r = .returned (.int .u64 (lift (rU b) 0 xs k e).1) ∧ Cs c a len cap xs (lift (rU b) 0 xs k e).2.1 (lift (rU b) 0 xs k e).2.2 W' ∧ Fr [c] W W' := by
  by_cases he : e = 0
  · subst he
    have hx := h.2.2.2.1
    have hk := h.2.2.2.2.1
    have hl : (xs.drop k).length = len - k := by rw [List.length_drop, h.2.1.1]
    have hg := rd_len (V := VU) (ok := okU) (xs.drop k) b
    have hL := lift_any (gd_U b) xs k (if (rd VU okU (xs.drop k) b).2.2 = 0 then k + (rU b (xs.drop k)).2.1 else 0) (rU b (xs.drop k)).1 (rU b (xs.drop k)).2.2 rfl (fun h0 => ⟨if_pos (by unfold rU at h0; exact Int.ofNat.inj h0), rfl⟩)
    rw [hL]
    refine rUint1 (hide fun W hS => by
      have := refUint_any (hide hx) _ k b W (hide hS) (Nat.le_refl _) hk b0 b1
      rw [out_U] at this
      exact this) ?_ h
    split
    · show k + (rd VU okU (xs.drop k) b).2.1 ≤ len
      omega
    · omega
  · rw [lift_e _ _ _ _ he]
    have h2 := h.1.2.2.1
    have H := hide h
    clear h
    have d : (e != 0) = true := bne_iff_ne.2 he
    go_enter Tryd.func60, Tryd.ntmps60
    go_wp2_with fail
    go_ret
    exact ⟨rfl, unhide H, Fr.refl _ _⟩
set_option maxHeartbeats 1000000 in
set_option maxRecDepth 100000 in
theorem rSint1 {c : Nat} {a : Option Addr} {len cap k : Nat} {xs : List Int} {k1 : Nat} {y e1 : Int} {b : Nat} {W : World} (HU : Hid (∀ W, Sl W a len cap xs → Calls Tryd.prog 80 #[.slice a len cap, .int .i64 (k : Int), .int .i64 (b : Int)] W fun r W' => r = .returned (.tuple #[.int .u64 y, .int .i64 (k1 : Int), .int .i64 e1]) ∧ Below W.heap.size W W')) (hk1 : k1 ≤ len) (hb : b ≠ 32) 
    (h : Cs c a len cap xs k 0 W) : Calls Tryd.prog 63 #[.pointer (some ⟨c, 0, none⟩), .int .i64 (b : Int)] W fun r W' => r = .returned (.int .u64 (pk e1 y 0)) ∧ Cs c a len cap xs (back e1 k1 k) e1 W' ∧ Fr [c] W W' := by
  have h2 := h.1.2.2.1
  have H := hide h.drew
  have HF := hide ((Fr.refl [c] W).drew)
  have HK := hide hk1
  clear h hk1
  have hb' : ((b : Int) == 32) = false := beq_eq_false_iff_ne.2 (by omega)
  by_cases he : e1 = 0
  · subst he
    rw [pk_0, back_0]
    go_enter Tryd.func63, Tryd.ntmps63
    go_wp2_with fail
    clear h2
    refine wp_region_held_drew (S := fun w' => w'.cell? ⟨c, 0, none⟩ = some (.slice a len cap) ∧ w'.cell? ⟨c, 1, none⟩ = some (.int .i64 (k : Int))) (by kernel_rfl) ?_ (fun hHeld => ?_)
    · (try dsimp only)
      exact ⟨(unhide H).1.1, (unhide H).1.2.1⟩
    refine lst0 17 (by kernel_rfl) ?_
    refine tkA 0 14 1 ?_
    refine tkA 1 15 3 ?_
    refine tkA 2 16 7 ?_
    refine tkA 3 17 15 ?_
    refine tkA 4 18 31 ?_
    refine tkA 5 19 63 ?_
    refine tkA 6 20 127 ?_
    refine tkA 7 21 255 ?_
    refine tkA 8 22 511 ?_
    refine rdA 9 1023 (fun Kk hKk => ?_)
    go_simp
    refine (unhide HU _ (unhide H).2.1).mono ?_
    rintro _ w1 ⟨rfl, hb⟩
    have H := hide ((unhide H).bel hb)
    have HF := hide ((unhide HF).bel hb)
    clear hb
    (try go_wp2_with fail)
    refine hKk.out _ _ ?_ (fun hHeld => ?_)
    · (try dsimp only)
      exact ⟨(unhide H).1.1, (unhide H).1.2.1⟩
    clear hKk Kk
    (try simp only [List.setIfInBounds_toArray, List.set_cons_zero, List.set_cons_succ])
    refine tkA 10 13 2047 ?_
    refine tkA 11 24 4095 ?_
    refine tkA 12 25 8191 ?_
    refine tkA 13 26 16383 ?_
    refine tkA 14 5 32767 ?_
    refine tkA 15 6 65535 ?_
    refine tkA 16 7 131071 ?_
    refine wpAnyH_done (by kernel_rfl) ?_ _
    obtain ⟨q0, q1, q2, qz⟩ := (unhide H).1
    have f1 := qz 1 (by decide)
    clear qz q0
    go_wp2_with fail
    go_ret
    exact ⟨rfl, (unhide H).place k1 (unhide HK), (unhide HF).place _ _⟩
  · rw [pk_e he, back_e he]
    have d : (e1 != 0) = true := bne_iff_ne.2 he
    go_enter Tryd.func63, Tryd.ntmps63
    go_wp2_with fail
    clear h2
    refine wp_region_held_drew (S := fun w' => w'.cell? ⟨c, 0, none⟩ = some (.slice a len cap) ∧ w'.cell? ⟨c, 1, none⟩ = some (.int .i64 (k : Int))) (by kernel_rfl) ?_ (fun hHeld => ?_)
    · (try dsimp only)
      exact ⟨(unhide H).1.1, (unhide H).1.2.1⟩
    refine lst0 17 (by kernel_rfl) ?_
    refine tkA 0 14 1 ?_
    refine tkA 1 15 3 ?_
    refine tkA 2 16 7 ?_
    refine tkA 3 17 15 ?_
    refine tkA 4 18 31 ?_
    refine tkA 5 19 63 ?_
    refine tkA 6 20 127 ?_
    refine tkA 7 21 255 ?_
    refine tkA 8 22 511 ?_
    refine rdA 9 1023 (fun Kk hKk => ?_)
    go_simp
    refine (unhide HU _ (unhide H).2.1).mono ?_
    rintro _ w1 ⟨rfl, hb⟩
    have H := hide ((unhide H).bel hb)
    have HF := hide ((unhide HF).bel hb)
    clear hb
    (try go_wp2_with fail)
    refine hKk.out _ _ ?_ (fun hHeld => ?_)
    · (try dsimp only)
      exact ⟨(unhide H).1.1, (unhide H).1.2.1⟩
    clear hKk Kk
    (try simp only [List.setIfInBounds_toArray, List.set_cons_zero, List.set_cons_succ])
    refine tkA 10 13 2047 ?_
    refine tkA 11 24 4095 ?_
    refine tkA 12 25 8191 ?_
    refine tkA 13 26 16383 ?_
    refine tkA 14 5 32767 ?_
    refine tkA 15 6 65535 ?_
    refine tkA 16 7 131071 ?_
    refine wpAnyH_done (by kernel_rfl) ?_ _
    obtain ⟨q0, q1, q2, qz⟩ := (unhide H).1
    have f1 := qz 2 (by decide)
    clear qz q0
    go_wp2_with fail
    go_ret
    exact ⟨rfl, (unhide H).err e1, (unhide HF).place _ _⟩
theorem rSint_any {c : Nat} {a : Option Addr} {len cap k : Nat} {xs : List Int} {e : Int} {b : Nat} {W : World} (h : Cs c a len cap xs k e W) (b0 : 1 ≤ b) (b1 : b ≤ 64) (hb : b ≠ 32) :
    Calls Tryd.prog 63 #[.pointer (some ⟨c, 0, none⟩), .int .i64 (b : Int)] W fun r W' => r = .returned (.int .u64 (lift (rS b) 0 xs k e).1) ∧ Cs c a len cap xs (lift (rS b) 0 xs k e).2.1 (lift (rS b) 0 xs k e).2.2 W' ∧ Fr [c] W W' := by
  by_cases he : e = 0
  · subst he
    have hx := h.2.2.2.1
    have hk := h.2.2.2.2.1
    have hl : (xs.drop k).length = len - k := by rw [List.length_drop, h.2.1.1]
    have hg := rd_len (V := VS) (ok := okS) (xs.drop k) b
    have hL := lift_any (gd_S b) xs k (if (rd VS okS (xs.drop k) b).2.2 = 0 then k + (rS b (xs.drop k)).2.1 else 0) (rS b (xs.drop k)).1 (rS b (xs.drop k)).2.2 rfl (fun h0 => ⟨if_pos (by unfold rS at h0; exact Int.ofNat.inj h0), rfl⟩)
    rw [hL]
    refine rSint1 (hide fun W hS => by
      have := refSint_any (hide hx) _ k b W (hide hS) (Nat.le_refl _) hk b0 b1
      rw [out_S] at this
      exact this) ?_ hb h
    split
    · show k + (rd VS okS (xs.drop k) b).2.1 ≤ len
      omega
    · omega
  · rw [lift_e _ _ _ _ he]
    have h2 := h.1.2.2.1
    have H := hide h
    clear h
    have d : (e != 0) = true := bne_iff_ne.2 he
    go_enter Tryd.func63, Tryd.ntmps63
    go_wp2_with fail
    go_ret
    exact ⟨rfl, unhide H, Fr.refl _ _⟩
set_option maxHeartbeats 1000000 in
set_option maxRecDepth 100000 in
theorem rSint321 {c : Nat} {a : Option Addr} {len cap k : Nat} {xs : List Int} {k1 : Nat} {y e1 : Int} {W : World} (HU : Hid (∀ W, Sl W a len cap xs → Calls Tryd.prog 80 #[.slice a len cap, .int .i64 (k : Int), .int .i64 32] W fun r W' => r = .returned (.tuple #[.int .u64 y, .int .i64 (k1 : Int), .int .i64 e1]) ∧ Below W.heap.size W W')) (hk1 : k1 ≤ len) (y0 : 0 ≤ y) (y1 : y < 18446744073709551616) 
    (h : Cs c a len cap xs k 0 W) : Calls Tryd.prog 63 #[.pointer (some ⟨c, 0, none⟩), .int .i64 32] W fun r W' => r = .returned (.int .u64 ((pk e1 y 0) % 4294967296)) ∧ Cs c a len cap xs (back e1 k1 k) e1 W' ∧ Fr [c] W W' := by
  have h2 := h.1.2.2.1
  have H := hide h.drew
  have HF := hide ((Fr.refl [c] W).drew)
  have HK := hide hk1
  clear h hk1
  by_cases he : e1 = 0
  · subst he
    rw [pk_0, back_0]
    go_enter Tryd.func63, Tryd.ntmps63
    go_wp2_with fail
    clear h2
    refine wp_region_held_drew (S := fun w' => w'.cell? ⟨c, 0, none⟩ = some (.slice a len cap) ∧ w'.cell? ⟨c, 1, none⟩ = some (.int .i64 (k : Int))) (by kernel_rfl) ?_ (fun hHeld => ?_)
    · (try dsimp only)
      exact ⟨(unhide H).1.1, (unhide H).1.2.1⟩
    refine lst0 17 (by kernel_rfl) ?_
    refine tkA 0 14 1 ?_
    refine tkA 1 15 3 ?_
    refine tkA 2 16 7 ?_
    refine tkA 3 17 15 ?_
    refine tkA 4 18 31 ?_
    refine tkA 5 19 63 ?_
    refine tkA 6 20 127 ?_
    refine tkA 7 21 255 ?_
    refine tkA 8 22 511 ?_
    refine rdA 9 1023 (fun Kk hKk => ?_)
    go_simp
    refine (unhide HU _ (unhide H).2.1).mono ?_
    rintro _ w1 ⟨rfl, hb⟩
    have H := hide ((unhide H).bel hb)
    have HF := hide ((unhide HF).bel hb)
    clear hb
    (try go_wp2_with fail)
    refine hKk.out _ _ ?_ (fun hHeld => ?_)
    · (try dsimp only)
      exact ⟨(unhide H).1.1, (unhide H).1.2.1⟩
    clear hKk Kk
    (try simp only [List.setIfInBounds_toArray, List.set_cons_zero, List.set_cons_succ])
    refine tkA 10 13 2047 ?_
    refine tkA 11 24 4095 ?_
    refine tkA 12 25 8191 ?_
    refine tkA 13 26 16383 ?_
    refine tkA 14 5 32767 ?_
    refine tkA 15 6 65535 ?_
    refine tkA 16 7 131071 ?_
    refine wpAnyH_done (by kernel_rfl) ?_ _
    obtain ⟨q0, q1, q2, qz⟩ := (unhide H).1
    have f1 := qz 1 (by decide)
    clear qz q0
    go_wp2_with fail
    go_ret
    exact ⟨rfl, (unhide H).place k1 (unhide HK), (unhide HF).place _ _⟩
  · rw [pk_e he, back_e he]
    have d : (e1 != 0) = true := bne_iff_ne.2 he
    go_enter Tryd.func63, Tryd.ntmps63
    go_wp2_with fail
    clear h2
    refine wp_region_held_drew (S := fun w' => w'.cell? ⟨c, 0, none⟩ = some (.slice a len cap) ∧ w'.cell? ⟨c, 1, none⟩ = some (.int .i64 (k : Int))) (by kernel_rfl) ?_ (fun hHeld => ?_)
    · (try dsimp only)
      exact ⟨(unhide H).1.1, (unhide H).1.2.1⟩
    refine lst0 17 (by kernel_rfl) ?_
    refine tkA 0 14 1 ?_
    refine tkA 1 15 3 ?_
    refine tkA 2 16 7 ?_
    refine tkA 3 17 15 ?_
    refine tkA 4 18 31 ?_
    refine tkA 5 19 63 ?_
    refine tkA 6 20 127 ?_
    refine tkA 7 21 255 ?_
    refine tkA 8 22 511 ?_
    refine rdA 9 1023 (fun Kk hKk => ?_)
    go_simp
    refine (unhide HU _ (unhide H).2.1).mono ?_
    rintro _ w1 ⟨rfl, hb⟩
    have H := hide ((unhide H).bel hb)
    have HF := hide ((unhide HF).bel hb)
    clear hb
    (try go_wp2_with fail)
    refine hKk.out _ _ ?_ (fun hHeld => ?_)
    · (try dsimp only)
      exact ⟨(unhide H).1.1, (unhide H).1.2.1⟩
    clear hKk Kk
    (try simp only [List.setIfInBounds_toArray, List.set_cons_zero, List.set_cons_succ])
    refine tkA 10 13 2047 ?_
    refine tkA 11 24 4095 ?_
    refine tkA 12 25 8191 ?_
    refine tkA 13 26 16383 ?_
    refine tkA 14 5 32767 ?_
    refine tkA 15 6 65535 ?_
    refine tkA 16 7 131071 ?_
    refine wpAnyH_done (by kernel_rfl) ?_ _
    obtain ⟨q0, q1, q2, qz⟩ := (unhide H).1
    have f1 := qz 2 (by decide)
    clear qz q0
    go_wp2_with fail
    go_ret
    exact ⟨rfl, (unhide H).err e1, (unhide HF).place _ _⟩
theorem rSint32_any {c : Nat} {a : Option Addr} {len cap k : Nat} {xs : List Int} {e : Int} {W : World} (h : Cs c a len cap xs k e W) :
    Calls Tryd.prog 63 #[.pointer (some ⟨c, 0, none⟩), .int .i64 32] W fun r W' => r = .returned (.int .u64 ((lift (rS 32) 0 xs k e).1 % 4294967296)) ∧ Cs c a len cap xs (lift (rS 32) 0 xs k e).2.1 (lift (rS 32) 0 xs k e).2.2 W' ∧ Fr [c] W W' := by
  by_cases he : e = 0
  · subst he
    have hx := h.2.2.2.1
    have hk := h.2.2.2.2.1
    have hl : (xs.drop k).length = len - k := by rw [List.length_drop, h.2.1.1]
    have hg := rd_len (V := VS) (ok := okS) (xs.drop k) 32
    have hL := lift_any (gd_S 32) xs k (if (rd VS okS (xs.drop k) 32).2.2 = 0 then k + (rS 32 (xs.drop k)).2.1 else 0) (rS 32 (xs.drop k)).1 (rS 32 (xs.drop k)).2.2 rfl (fun h0 => ⟨if_pos (by unfold rS at h0; exact Int.ofNat.inj h0), rfl⟩)
    rw [hL]
    refine rSint321 (hide fun W hS => by
      have := refSint_any (hide hx) _ k 32 W (hide hS) (Nat.le_refl _) hk (by decide) (by decide)
      rw [out_S] at this
      exact this) ?_ (Int.emod_nonneg _ (by decide)) (Int.emod_lt_of_pos _ (by decide)) h
    split
    · show k + (rd VS okS (xs.drop k) 32).2.1 ≤ len
      omega
    · omega
  · rw [lift_e _ _ _ _ he]
    have h2 := h.1.2.2.1
    have H := hide h
    clear h
    have d : (e != 0) = true := bne_iff_ne.2 he
    go_enter Tryd.func63, Tryd.ntmps63
    go_wp2_with fail
    go_ret
    exact ⟨rfl, unhide H, Fr.refl _ _⟩
end Go.Proofs.YtalahdkgigcpfaaDoor
