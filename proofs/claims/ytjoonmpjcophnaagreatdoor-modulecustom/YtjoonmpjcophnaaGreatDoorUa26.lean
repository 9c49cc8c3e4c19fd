/- ScH. -/
import Derived.Test.YtjoonmpjcophnaaGreatDoorUa01
import Derived.Test.YtjoonmpjcophnaaGreatDoorUa23
namespace Go.Proofs.YtjoonmpjcophnaaGreatDoor
open Go.RowKit

theorem u32_mod (x : Int) : IntKind.u32.wrap x = x % 4294967296 := by
  simp only [IntKind.wrap, IntKind.bits, IntKind.signed]
  simp
theorem u32_id {x : Int} (h1 : 0 ≤ x) (h2 : x < 4294967296) : IntKind.u32.wrap x = x := by rw [u32_mod]; omega
theorem Got.pk {A : Type} {mk : A → Value} {y z0 : A} {e : Int} {v : Value} {w : World} (h : Got (mk z0) e (fun v _ => v = mk y) v w) : v = mk (pk e y z0) := by
  by_cases he : e = 0
  · subst he; exact h.1 rfl
  · rw [pk_e he]; exact h.2 he
set_option maxHeartbeats 1000000 in
set_option maxRecDepth 100000 in
theorem number1_U {c : Nat} {a : Option Addr} {len cap k : Nat} {xs : List Int} {k1 p1 p2 p3 : Nat} {z y e1 : Int} {W : World} (HU : Hid (∀ W, Sl W a len cap xs → Calls Tryz.prog 67 #[.slice a len cap, .int .i64 (k : Int), .int .i64 z] W fun r W' => r = .returned (.tuple #[.int .u64 y, .int .i64 (k1 : Int), .int .i64 e1]) ∧ Below W.heap.size W W')) (hk1 : k1 ≤ len)
    (n2 : p2 ≠ c) (h : Cs c a len cap xs k 0 W) (hB : Bx p1 (.func (.func 67) #[] #[]) W ∧ Bx p2 (.pointer (some ⟨c, 0, none⟩)) W ∧ Bx p3 (.int .i64 z) W) :
    Calls Tryz.prog 95 #[.pointer (some ⟨p1, 0, none⟩), .pointer (some ⟨p2, 0, none⟩), .pointer (some ⟨p3, 0, none⟩)] W fun r W' => ∃ v, r = .returned v ∧ v = .int .u64 y ∧ Cs c a len cap xs k1 e1 W' ∧ Fr [c] W W' := by
  have H := hide h.drew
  have HF := hide ((Fr.refl [c] W).drew)
  have HB := hide (show Bx p1 (.func (.func 67) #[] #[]) W.drew ∧ Bx p2 (.pointer (some ⟨c, 0, none⟩)) W.drew ∧ Bx p3 (.int .i64 z) W.drew from hB)
  have HK := hide hk1
  have HN := hide n2
  clear h hB hk1 n2
  go_enter Tryz.func95, Tryz.ntmps95
  go_wp2_with fail
  refine wp_region_held_drew (S := fun w' => w'.cell? ⟨p1, 0, none⟩ = some (.func (.func 67) #[] #[]) ∧ w'.cell? ⟨p2, 0, none⟩ = some (.pointer (some ⟨c, 0, none⟩)) ∧ w'.cell? ⟨p3, 0, none⟩ = some (.int .i64 z) ∧ w'.cell? ⟨c, 0, none⟩ = some (.slice a len cap) ∧ w'.cell? ⟨c, 1, none⟩ = some (.int .i64 (k : Int))) (by kernel_rfl) ?_ (fun hHeld => ?_)
  · (try dsimp only)
    exact ⟨(unhide HB).1, (unhide HB).2.1, (unhide HB).2.2, (unhide H).1.1, (unhide H).1.2.1⟩
  refine lst0 20 (by kernel_rfl) ?_
  refine tkA 0 8 1 ?_
  refine tkA 1 9 3 ?_
  refine tkA 2 10 7 ?_
  refine tkA 3 11 15 ?_
  refine tkA 4 12 31 ?_
  refine tkA 5 13 63 ?_
  refine tkA 6 14 127 ?_
  refine tkA 7 15 255 ?_
  refine tkA 8 16 511 ?_
  refine tkA 9 17 1023 ?_
  refine tkA 10 18 2047 ?_
  refine tkA 11 19 4095 ?_
  refine rdA 12 8191 (fun Kk hKk => ?_)
  go_simp
  refine (unhide HU _ (unhide H).2.1).mono ?_
  rintro _ w1 ⟨rfl, hb⟩
  have H := hide ((unhide H).bel hb)
  have HB := hide (And.intro ((unhide HB).1.bel hb) (And.intro ((unhide HB).2.1.bel hb) ((unhide HB).2.2.bel hb)))
  have HF := hide ((unhide HF).bel hb)
  clear hb
  (try go_wp2_with fail)
  refine hKk.out _ _ ?_ (fun hHeld => ?_)
  · (try dsimp only)
    exact ⟨(unhide HB).1, (unhide HB).2.1, (unhide HB).2.2, (unhide H).1.1, (unhide H).1.2.1⟩
  clear hKk Kk
  (try simp only [List.setIfInBounds_toArray, List.set_cons_zero, List.set_cons_succ])
  refine tkA 13 7 16383 ?_
  refine tkA 14 21 32767 ?_
  refine tkA 15 22 65535 ?_
  refine tkA 16 23 131071 ?_
  refine tkA 17 4 262143 ?_
  refine tkA 18 5 524287 ?_
  refine tkA 19 6 1048575 ?_
  refine wpAnyH_done (by kernel_rfl) ?_ _
  have hb2 := (unhide HB).2.1
  unfold Bx at hb2
  obtain ⟨q0, q1, q2, qz⟩ := (unhide H).1
  have f1 := qz 1 (by decide)
  clear qz q0 q2
  go_wp2_with fail
  have HB2 := hide ((unhide HB).2.1.fr (l := [c]) ((Fr.refl _ _).place 1 (.int .i64 (k1 : Int))) (by simpa using unhide HN))
  have H := hide ((unhide H).place k1 (unhide HK))
  have HF := hide ((unhide HF).place 1 (.int .i64 (k1 : Int)))
  clear hb2 q1 f1
  generalize World.setCell w1 _ _ = w2 at *
  refine (fail_any (unhide H)).mono ?_
  rintro _ w3 ⟨rfl, hC, hF⟩
  have H := hide hC
  have HF := hide ((unhide HF).trans hF)
  clear hC hF
  go_wp2_with fail
  go_ret
  exact ⟨_, rfl, rfl, unhide H, unhide HF⟩
set_option maxHeartbeats 1000000 in
set_option maxRecDepth 100000 in
theorem number1_S {c : Nat} {a : Option Addr} {len cap k : Nat} {xs : List Int} {k1 p1 p2 p3 : Nat} {z y e1 : Int} {W : World} (HU : Hid (∀ W, Sl W a len cap xs → Calls Tryz.prog 186 #[.slice a len cap, .int .i64 (k : Int), .int .i64 z] W fun r W' => r = .returned (.tuple #[.int .u64 y, .int .i64 (k1 : Int), .int .i64 e1]) ∧ Below W.heap.size W W')) (hk1 : k1 ≤ len)
    (n2 : p2 ≠ c) (h : Cs c a len cap xs k 0 W) (hB : Bx p1 (.func (.func 186) #[] #[]) W ∧ Bx p2 (.pointer (some ⟨c, 0, none⟩)) W ∧ Bx p3 (.int .i64 z) W) :
    Calls Tryz.prog 95 #[.pointer (some ⟨p1, 0, none⟩), .pointer (some ⟨p2, 0, none⟩), .pointer (some ⟨p3, 0, none⟩)] W fun r W' => ∃ v, r = .returned v ∧ v = .int .u64 y ∧ Cs c a len cap xs k1 e1 W' ∧ Fr [c] W W' := by
  have H := hide h.drew
  have HF := hide ((Fr.refl [c] W).drew)
  have HB := hide (show Bx p1 (.func (.func 186) #[] #[]) W.drew ∧ Bx p2 (.pointer (some ⟨c, 0, none⟩)) W.drew ∧ Bx p3 (.int .i64 z) W.drew from hB)
  have HK := hide hk1
  have HN := hide n2
  clear h hB hk1 n2
  go_enter Tryz.func95, Tryz.ntmps95
  go_wp2_with fail
  refine wp_region_held_drew (S := fun w' => w'.cell? ⟨p1, 0, none⟩ = some (.func (.func 186) #[] #[]) ∧ w'.cell? ⟨p2, 0, none⟩ = some (.pointer (some ⟨c, 0, none⟩)) ∧ w'.cell? ⟨p3, 0, none⟩ = some (.int .i64 z) ∧ w'.cell? ⟨c, 0, none⟩ = some (.slice a len cap) ∧ w'.cell? ⟨c, 1, none⟩ = some (.int .i64 (k : Int))) (by kernel_rfl) ?_ (fun hHeld => ?_)
  · (try dsimp only)
    exact ⟨(unhide HB).1, (unhide HB).2.1, (unhide HB).2.2, (unhide H).1.1, (unhide H).1.2.1⟩
  refine lst0 20 (by kernel_rfl) ?_
  refine tkA 0 8 1 ?_
  refine tkA 1 9 3 ?_
  refine tkA 2 10 7 ?_
  refine tkA 3 11 15 ?_
  refine tkA 4 12 31 ?_
  refine tkA 5 13 63 ?_
  refine tkA 6 14 127 ?_
  refine tkA 7 15 255 ?_
  refine tkA 8 16 511 ?_
  refine tkA 9 17 1023 ?_
  refine tkA 10 18 2047 ?_
  refine tkA 11 19 4095 ?_
  refine rdA 12 8191 (fun Kk hKk => ?_)
  go_simp
  refine (unhide HU _ (unhide H).2.1).mono ?_
  rintro _ w1 ⟨rfl, hb⟩
  have H := hide ((unhide H).bel hb)
  have HB := hide (And.intro ((unhide HB).1.bel hb) (And.intro ((unhide HB).2.1.bel hb) ((unhide HB).2.2.bel hb)))
  have HF := hide ((unhide HF).bel hb)
  clear hb
  (try go_wp2_with fail)
  refine hKk.out _ _ ?_ (fun hHeld => ?_)
  · (try dsimp only)
    exact ⟨(unhide HB).1, (unhide HB).2.1, (unhide HB).2.2, (unhide H).1.1, (unhide H).1.2.1⟩
  clear hKk Kk
  (try simp only [List.setIfInBounds_toArray, List.set_cons_zero, List.set_cons_succ])
  refine tkA 13 7 16383 ?_
  refine tkA 14 21 32767 ?_
  refine tkA 15 22 65535 ?_
  refine tkA 16 23 131071 ?_
  refine tkA 17 4 262143 ?_
  refine tkA 18 5 524287 ?_
  refine tkA 19 6 1048575 ?_
  refine wpAnyH_done (by kernel_rfl) ?_ _
  have hb2 := (unhide HB).2.1
  unfold Bx at hb2
  obtain ⟨q0, q1, q2, qz⟩ := (unhide H).1
  have f1 := qz 1 (by decide)
  clear qz q0 q2
  go_wp2_with fail
  have HB2 := hide ((unhide HB).2.1.fr (l := [c]) ((Fr.refl _ _).place 1 (.int .i64 (k1 : Int))) (by simpa using unhide HN))
  have H := hide ((unhide H).place k1 (unhide HK))
  have HF := hide ((unhide HF).place 1 (.int .i64 (k1 : Int)))
  clear hb2 q1 f1
  generalize World.setCell w1 _ _ = w2 at *
  refine (fail_any (unhide H)).mono ?_
  rintro _ w3 ⟨rfl, hC, hF⟩
  have H := hide hC
  have HF := hide ((unhide HF).trans hF)
  clear hC hF
  go_wp2_with fail
  go_ret
  exact ⟨_, rfl, rfl, unhide H, unhide HF⟩
theorem out_U (k : Nat) (l : List Int) (b : Nat) : outT k (rd VU okU l b) = .tuple #[.int .u64 (rU b l).1, .int .i64 ((if (rd VU okU l b).2.2 = 0 then k + (rU b l).2.1 else 0 : Nat) : Int), .int .i64 (rU b l).2.2] := by
  unfold outT rU
  by_cases h : (rd VU okU l b).2.2 = 0
  · rw [if_pos h, if_pos h]
  · rw [if_neg h, if_neg h]; rfl
theorem number_U {c : Nat} {a : Option Addr} {len cap k : Nat} {xs : List Int} {e : Int} {b : Nat} {W : World} (h : Cs c a len cap xs k e W) (b0 : 1 ≤ b) (b1 : b ≤ 64) :
    Calls Tryz.prog 66 #[.pointer (some ⟨c, 0, none⟩), .int .i64 (b : Int), .func (.func 67) #[] #[]] W fun r W' => r = .returned (.int .u64 (lift (rU b) 0 xs k e).1) ∧ Cs c a len cap xs (lift (rU b) 0 xs k e).2.1 (lift (rU b) 0 xs k e).2.2 W' ∧ Fr [c] W W' := by
  by_cases he : e = 0
  · subst he
    have hx := h.2.2.2.1
    have hk := h.2.2.2.2.1
    have hl : (xs.drop k).length = len - k := by rw [List.length_drop, h.2.1.1]
    have hg := rd_len (V := VU) (ok := okU) (xs.drop k) b
    have hL := lift_any (gd_U b) xs k (if (rd VU okU (xs.drop k) b).2.2 = 0 then k + (rU b (xs.drop k)).2.1 else 0) (rU b (xs.drop k)).1 (rU b (xs.drop k)).2.2 rfl (fun h0 => ⟨if_pos (by unfold rU at h0; exact Int.ofNat.inj h0), rfl⟩)
    refine (number_live (V := fun _ v _ => v = .int .u64 (rU b (xs.drop k)).1) (hide fun W q0 q1 q2 n0 _ _ hC hB => number1_U (k1 := if (rd VU okU (xs.drop k) b).2.2 = 0 then k + (rU b (xs.drop k)).2.1 else 0) (hide fun W hS => by
      have := uint_any (W := W) (k := k) (bits := b) (hide hx) (hide hS) hk b0 b1
      rw [out_U] at this
      exact this) ?_ n0 hC hB) h).mono ?_
    · split
      · show k + (rd VU okU (xs.drop k) b).2.1 ≤ len
        omega
      · omega
    · rintro _ w ⟨v, rfl, hV, hC, hF⟩
      rw [hL]
      exact ⟨by rw [Got.pk (mk := Value.int .u64) hV], hC, hF⟩
  · rw [lift_e _ _ _ _ he]
    exact number_dead h he
theorem out_S (k : Nat) (l : List Int) (b : Nat) : outT k (rd VS okS l b) = .tuple #[.int .u64 (rS b l).1, .int .i64 ((if (rd VS okS l b).2.2 = 0 then k + (rS b l).2.1 else 0 : Nat) : Int), .int .i64 (rS b l).2.2] := by
  unfold outT rS
  by_cases h : (rd VS okS l b).2.2 = 0
  · rw [if_pos h, if_pos h]
  · rw [if_neg h, if_neg h]; rfl
theorem number_S {c : Nat} {a : Option Addr} {len cap k : Nat} {xs : List Int} {e : Int} {b : Nat} {W : World} (h : Cs c a len cap xs k e W) (b0 : 1 ≤ b) (b1 : b ≤ 64) :
    Calls Tryz.prog 66 #[.pointer (some ⟨c, 0, none⟩), .int .i64 (b : Int), .func (.func 186) #[] #[]] W fun r W' => r = .returned (.int .u64 (lift (rS b) 0 xs k e).1) ∧ Cs c a len cap xs (lift (rS b) 0 xs k e).2.1 (lift (rS b) 0 xs k e).2.2 W' ∧ Fr [c] W W' := by
  by_cases he : e = 0
  · subst he
    have hx := h.2.2.2.1
    have hk := h.2.2.2.2.1
    have hl : (xs.drop k).length = len - k := by rw [List.length_drop, h.2.1.1]
    have hg := rd_len (V := VS) (ok := okS) (xs.drop k) b
    have hL := lift_any (gd_S b) xs k (if (rd VS okS (xs.drop k) b).2.2 = 0 then k + (rS b (xs.drop k)).2.1 else 0) (rS b (xs.drop k)).1 (rS b (xs.drop k)).2.2 rfl (fun h0 => ⟨if_pos (by unfold rS at h0; exact Int.ofNat.inj h0), rfl⟩)
    refine (number_live (V := fun _ v _ => v = .int .u64 (rS b (xs.drop k)).1) (hide fun W q0 q1 q2 n0 _ _ hC hB => number1_S (k1 := if (rd VS okS (xs.drop k) b).2.2 = 0 then k + (rS b (xs.drop k)).2.1 else 0) (hide fun W hS => by
      have := sint_any (W := W) (k := k) (bits := b) (hide hx) (hide hS) hk b0 b1
      rw [out_S] at this
      exact this) ?_ n0 hC hB) h).mono ?_
    · split
      · show k + (rd VS okS (xs.drop k) b).2.1 ≤ len
        omega
      · omega
    · rintro _ w ⟨v, rfl, hV, hC, hF⟩
      rw [hL]
      exact ⟨by rw [Got.pk (mk := Value.int .u64) hV], hC, hF⟩
  · rw [lift_e _ _ _ _ he]
    exact number_dead h he
set_option maxHeartbeats 1000000 in
set_option maxRecDepth 100000 in
theorem u32_any {c : Nat} {a : Option Addr} {len cap k : Nat} {xs : List Int} {e : Int} {W : World} (h : Cs c a len cap xs k e W) :
    Calls Tryz.prog 38 #[.pointer (some ⟨c, 0, none⟩)] W fun r W' => r = .returned (.int .u32 (lift (rU 32) 0 xs k e).1) ∧ Cs c a len cap xs (lift (rU 32) 0 xs k e).2.1 (lift (rU 32) 0 xs k e).2.2 W' ∧ Fr [c] W W' := by
  have hlt := liftU_lt h.2.2.2.1 k e
  have HN := hide (number_U (b := 32) h (by decide) (by decide))
  clear h
  generalize hL : lift (rU 32) 0 xs k e = L at *
  obtain ⟨y, k1, e1⟩ := L
  have HL := hide hL
  clear hL
  dsimp only at *
  go_enter Tryz.func38, Tryz.ntmps38
  go_wp2_with fail
  refine (unhide HN).mono ?_
  rintro _ w1 ⟨rfl, hC, hF⟩
  have HC := hide hC
  have HF := hide hF
  clear hC hF
  go_wp2_with fail
  go_ret
  exact ⟨rfl, unhide HC, unhide HF⟩
set_option maxHeartbeats 1000000 in
set_option maxRecDepth 100000 in
theorem s64_any {c : Nat} {a : Option Addr} {len cap k : Nat} {xs : List Int} {e : Int} {W : World} (h : Cs c a len cap xs k e W) :
    Calls Tryz.prog 177 #[.pointer (some ⟨c, 0, none⟩)] W fun r W' => r = .returned (.int .u64 (lift (rS 64) 0 xs k e).1) ∧ Cs c a len cap xs (lift (rS 64) 0 xs k e).2.1 (lift (rS 64) 0 xs k e).2.2 W' ∧ Fr [c] W W' := by
  have HN := hide (number_S (b := 64) h (by decide) (by decide))
  clear h
  generalize hL : lift (rS 64) 0 xs k e = L at *
  obtain ⟨y, k1, e1⟩ := L
  have HL := hide hL
  clear hL
  dsimp only at *
  go_enter Tryz.func177, Tryz.ntmps177
  go_wp2_with fail
  refine (unhide HN).mono ?_
  rintro _ w1 ⟨rfl, hC, hF⟩
  have HC := hide hC
  have HF := hide hF
  clear hC hF
  go_wp2_with fail
  go_ret
  exact ⟨rfl, unhide HC, unhide HF⟩
set_option maxHeartbeats 1000000 in
set_option maxRecDepth 100000 in
theorem s32_any {c : Nat} {a : Option Addr} {len cap k : Nat} {xs : List Int} {e : Int} {W : World} (h : Cs c a len cap xs k e W) :
    Calls Tryz.prog 176 #[.pointer (some ⟨c, 0, none⟩)] W fun r W' => r = .returned (.int .u32 ((lift (rS 32) 0 xs k e).1 % 4294967296)) ∧ Cs c a len cap xs (lift (rS 32) 0 xs k e).2.1 (lift (rS 32) 0 xs k e).2.2 W' ∧ Fr [c] W W' := by
  have HN := hide (number_S (b := 32) h (by decide) (by decide))
  clear h
  generalize hL : lift (rS 32) 0 xs k e = L at *
  obtain ⟨y, k1, e1⟩ := L
  have HL := hide hL
  clear hL
  dsimp only at *
  go_enter Tryz.func176, Tryz.ntmps176
  go_wp2_with fail
  refine (unhide HN).mono ?_
  rintro _ w1 ⟨rfl, hC, hF⟩
  have HC := hide hC
  have HF := hide hF
  clear hC hF
  go_wp2_with fail
  go_ret
  exact ⟨by show Ending.returned (Value.int .u32 (IntKind.u32.wrap y)) = _; rw [u32_mod], unhide HC, unhide HF⟩
end Go.Proofs.YtjoonmpjcophnaaGreatDoor
