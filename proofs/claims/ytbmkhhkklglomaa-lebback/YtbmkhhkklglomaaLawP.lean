/- The law LebPuts: its walk. -/
import Derived.Test.YtbmkhhkklglomaaLbV
namespace Go.Proofs.Ytbmkhhkklglomaa
open Go.RowKit

/-- What holds behind every operation may be more. -/
theorem wpAnyH_more {P : Program} {ops : Array Oper} {Q : Exit → Act → World → Prop} {md : Region.Mode} {S S' : World → Prop} (h : ∀ w, S' w → S w) :
    ∀ (fuel : Nat) (listed : Array Bool) (a : Act) (w : World), wpAnyH P md ops Q S' fuel listed a w → wpAnyH P md ops Q S fuel listed a w
  | 0, _, _, _, k => k
  | fuel + 1, _, _, _, k => ⟨k.1, fun i hi => wpOp_mono (fun a' w' k' => ⟨h w' k'.1, wpAnyH_more h fuel _ a' w' k'.2⟩) (k.2 i hi)⟩
theorem conv_run {w : World} {a : Option Addr} {len cap : Nat} {xs : List Int} (h : Sl w a len cap xs) : (convert 22 9 (.slice a len cap)).run Try.prog w = .ok (.string (strOfNums xs)) w := by
  obtain ⟨h1, _, _, h4⟩ := h
  rcases h4 with ⟨rfl, rfl, rfl⟩ | ⟨b, off, rfl, h4⟩
  · have : xs = [] := List.eq_nil_of_length_eq_zero h1
    subst this
    exact run_convert_bytes_nil w 22 5 Try.underlying22 Try.underlying5 0 0 9 Try.underlying9
  · exact run_convert_bytes_arg w 22 5 Try.underlying22 Try.underlying5 b off len cap xs h1 h4 9 Try.underlying9
set_option maxHeartbeats 1000000 in
set_option maxRecDepth 100000 in
theorem puts_w {z s : Int} {n : Nat} (H1 : Puts 12 z (putU n)) (H2 : Puts 13 z (putU n)) (H3 : Puts 14 z (putS s)) (H4 : Puts 15 z (putS s)) (LU : Hid ((putU n).length ≤ 10)) (LS : Hid ((putS s).length ≤ 10)) (W : World) :
    Calls Try.prog 4 #[.int .u64 z] W fun r W' => r = .returned (.bool true) ∧ Below W.heap.size W W' := by
  have HA := awake_any
  go_enter Try.func4, Try.ntmps4
  go_wp2_with fail
  refine (unhide HA _).mono ?_
  rintro _ w0 ⟨rfl, hb⟩
  have HB := hide hb
  clear hb
  go_wp2_with fail
  refine wp_region_held_drew (S := fun w => Below W.heap.size W w) (by kernel_rfl) ?_ (fun hHeld => ?_)
  · (try dsimp only)
    exact (unhide HB).drew
  refine lst0 17 (by kernel_rfl) ?_
  refine tkA 0 5 1 ?_
  refine tkA 3 8 9 ?_
  refine rdA 1 11 (fun Kk hKk => ?_)
  go_simp
  refine (unhide H1 _).mono ?_
  rintro _ w1 ⟨v1, rfl, hO1, hb1⟩
  obtain ⟨g1, cap1, rfl⟩ := form_one hO1 (putU_ne n)
  have HS1 := hide (Ow.sl hO1 (putU_ne n) (by exact Nat.le_trans (unhide LU) (by omega)))
  have HB1 := hide (bthen (hHeld) hb1)
  clear hO1 hb1
  (try go_wp2_with fail)
  refine hKk.out _ _ ?_ (fun _ => ?_)
  · (try dsimp only)
    exact unhide HB1
  clear hKk Kk hHeld
  (try simp only [List.setIfInBounds_toArray, List.set_cons_zero, List.set_cons_succ])
  refine wpAnyH_more (S' := fun w => Below w1.heap.size w1 w) (fun _ h => bthen (unhide HB1) h) _ _ _ _ ?_
  have hHeld : Below w1.heap.size w1 w1 := Below.refl _ _
  refine tkA 2 7 15 ?_ (hy := by refine Or.inl ⟨by rfl, ?_⟩; ((intro w hSw; have hc := conv_run ((unhide HS1).below hSw); go_simp) <;> with_reducible rfl))
  refine rdA 4 31 (fun Kk hKk => ?_)
  go_simp
  refine (unhide H2 _).mono ?_
  rintro _ w2 ⟨v2, rfl, hO2, hb2⟩
  obtain ⟨g2, cap2, rfl⟩ := form_one hO2 (putU_ne n)
  have HS2 := hide (Ow.sl hO2 (putU_ne n) (by exact Nat.le_trans (unhide LU) (by omega)))
  have HB2 := hide (bthen (hHeld) hb2)
  clear hO2 hb2
  (try go_wp2_with fail)
  refine hKk.out _ _ ?_ (fun _ => ?_)
  · (try dsimp only)
    exact unhide HB2
  clear hKk Kk hHeld
  (try simp only [List.setIfInBounds_toArray, List.set_cons_zero, List.set_cons_succ])
  refine wpAnyH_more (S' := fun w => Below w2.heap.size w2 w) (fun _ h => bthen (unhide HB2) h) _ _ _ _ ?_
  have hHeld : Below w2.heap.size w2 w2 := Below.refl _ _
  refine tkA 5 10 63 ?_ (hy := by refine Or.inl ⟨by rfl, ?_⟩; ((intro w hSw; have hc := conv_run ((unhide HS2).below hSw); go_simp) <;> with_reducible rfl))
  refine tkA 6 11 127 ?_
  refine tkA 7 12 255 ?_
  refine tkA 8 13 511 ?_
  refine tkA 11 16 2559 ?_
  refine rdA 9 3071 (fun Kk hKk => ?_)
  go_simp
  refine (unhide H3 _).mono ?_
  rintro _ w3 ⟨v3, rfl, hO3, hb3⟩
  obtain ⟨g3, cap3, rfl⟩ := form_one hO3 (putS_ne s)
  have HS3 := hide (Ow.sl hO3 (putS_ne s) (by exact Nat.le_trans (unhide LS) (by omega)))
  have HB3 := hide (bthen (hHeld) hb3)
  clear hO3 hb3
  (try go_wp2_with fail)
  refine hKk.out _ _ ?_ (fun _ => ?_)
  · (try dsimp only)
    exact unhide HB3
  clear hKk Kk hHeld
  (try simp only [List.setIfInBounds_toArray, List.set_cons_zero, List.set_cons_succ])
  refine wpAnyH_more (S' := fun w => Below w3.heap.size w3 w) (fun _ h => bthen (unhide HB3) h) _ _ _ _ ?_
  have hHeld : Below w3.heap.size w3 w3 := Below.refl _ _
  refine tkA 10 15 4095 ?_ (hy := by refine Or.inl ⟨by rfl, ?_⟩; ((intro w hSw; have hc := conv_run ((unhide HS3).below hSw); go_simp) <;> with_reducible rfl))
  refine rdA 12 8191 (fun Kk hKk => ?_)
  go_simp
  refine (unhide H4 _).mono ?_
  rintro _ w4 ⟨v4, rfl, hO4, hb4⟩
  obtain ⟨g4, cap4, rfl⟩ := form_one hO4 (putS_ne s)
  have HS4 := hide (Ow.sl hO4 (putS_ne s) (by exact Nat.le_trans (unhide LS) (by omega)))
  have HB4 := hide (bthen (hHeld) hb4)
  clear hO4 hb4
  (try go_wp2_with fail)
  refine hKk.out _ _ ?_ (fun _ => ?_)
  · (try dsimp only)
    exact unhide HB4
  clear hKk Kk hHeld
  (try simp only [List.setIfInBounds_toArray, List.set_cons_zero, List.set_cons_succ])
  refine wpAnyH_more (S' := fun w => Below w4.heap.size w4 w) (fun _ h => bthen (unhide HB4) h) _ _ _ _ ?_
  have hHeld : Below w4.heap.size w4 w4 := Below.refl _ _
  refine tkA 13 18 16383 ?_ (hy := by refine Or.inl ⟨by rfl, ?_⟩; ((intro w hSw; have hc := conv_run ((unhide HS4).below hSw); go_simp) <;> with_reducible rfl))
  refine tkA 14 19 32767 ?_
  refine tkA 15 20 65535 ?_
  refine tkA 16 2 131071 ?_
  refine wpAnyH_done (by kernel_rfl) ?_ _
  clear hHeld
  go_wp2_with fail
  go_ret
  exact ⟨by first | rfl | simp, bthen (bthen (bthen (unhide HB1) (unhide HB2)) (unhide HB3)) (unhide HB4)⟩
/-- A word as a signed number. -/
theorem sgn_ex (n : Nat) (hn : n < 18446744073709551616) : ∃ s : Int, -9223372036854775808 ≤ s ∧ s < 9223372036854775808 ∧ s % 18446744073709551616 = n := by
  by_cases h : n < 9223372036854775808
  · exact ⟨n, by omega, by omega, by omega⟩
  · exact ⟨(n : Int) - 18446744073709551616, by omega, by omega, by omega⟩
theorem puts_any (n : Nat) (hn : n < 18446744073709551616) (W : World) : Calls Try.prog 4 #[.int .u64 (n : Int)] W fun r W' => r = .returned (.bool true) ∧ Below W.heap.size W W' := by
  obtain ⟨s, h1, h2, h3⟩ := sgn_ex n hn
  have H3 := putSint_any s h1 h2
  have H4 := refPutSint_any s.natAbs s (Nat.le_refl _) h1 h2
  rw [h3] at H3 H4
  exact puts_w (putUint_any n hn) (refPutUint_any n n (Nat.le_refl _) hn) H3 H4 (hide (putU_len 9 n (Nat.lt_of_lt_of_le hn (by decide)))) (hide (putS_len 9 s (by omega) (by omega))) W
end Go.Proofs.Ytbmkhhkklglomaa
