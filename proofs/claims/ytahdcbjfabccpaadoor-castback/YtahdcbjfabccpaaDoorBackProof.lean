/- For all uint64 a, n the law CastBack answers true, and the arguments read as before: what is promoted is demoted to what it was, no number to the canonical one; a whole number of few bits is exact; the negative of a signed one has the other sign. The card: math/bits' table of de Bruijn's numbers holds what the program's own text lays in it; no other condition. -/
import Derived.Test.YtahdcbjfabccpaaDoorB29
import Derived.Test.YtahdcbjfabccpaaDoorB30
import Derived.SevenTiedAt
import Derived.Test.YtahdcbjfabccpaaDoorCards
namespace Go.Proofs.YtahdcbjfabccpaaDoor
open Go.ChangeShapes Go.WideShapes Go.ChangeAt Go.WideElems Go.RowKit Go.Joins
open Go.Proofs.YtahdcbjfabccpaaDoor.W

theorem few {w e f P Q b : Int} (kw : Kd w e f P Q b) {q : Int} (q1 : q.toNat < 2 ^ (f.toNat + 1)) : exB f b q.toNat = true := by
  obtain ⟨c, h1, -⟩ := whole_code kw q.toNat q1
  unfold exB
  refine dt ?_
  rw [← h1, fval_code]
theorem up_word {m : Int} (m1 : m.toNat < 2 ^ 24) : ∃ c : Int, 0 ≤ c ∧ c < 18446744073709551616 ∧ rd 23 8388608 256 127 false (m.toNat * 2 ^ Z5) = c ∧ turnB 52 4503599627370496 2048 1023 (oN 8388608 256 c) (oK 8388608 256 c) (oM 23 8388608 256 127 c) = rd 52 4503599627370496 2048 1023 false (m.toNat * 2 ^ Z5) := by
  obtain ⟨c, h1, h2, h3⟩ := whole_code kd_32 m.toNat m1
  obtain ⟨g0, g1, -, g3, g4, g5, g6⟩ := fl_parts kd_32 false h2
  refine ⟨_, g0, g1, h3 false, ?_⟩
  unfold turnB
  rw [if_neg g4, if_neg g5, g3, g6, h1]
theorem isNan_oK (P Q x : Int) : (x / P % Q == Q - 1 && x % P != 0) = decide (oK P Q x = 3) := by
  unfold oK
  by_cases h1 : x / P % Q = Q - 1
  · rw [if_pos h1, eq_t h1]
    by_cases h2 : x % P = 0
    · rw [if_pos h2, ne_f h2]
      rfl
    · rw [if_neg h2, ne_t h2]
      rfl
  · rw [if_neg h1, eq_f h1]
    split <;> rfl
theorem castBack_any (W : World) (mk : Mk W) (x : Int) (x0 : 0 ≤ x) (x1 : x < 18446744073709551616) (n : Int) (n0 : 0 ≤ n) (n1 : n < 18446744073709551616) :
    Calls Tryd.prog 4 #[.int .u64 x, .int .u64 n] W fun r W' => r = .returned (.bool true) ∧ Below W.heap.size W W' := by
  obtain ⟨y, hy⟩ : ∃ y, turnB 52 4503599627370496 2048 1023 (oN 8388608 256 x) (oK 8388608 256 x) (oM 23 8388608 256 127 x) = y := ⟨_, rfl⟩
  have yb := turn_in kd_64 (oN 8388608 256 x) (oK 8388608 256 x) (oM 23 8388608 256 127 x)
  rw [hy] at yb
  have H1 := promote_any x0 x1
  rw [hy] at H1
  have H2 := demote_any yb.1 yb.2
  rw [turn_back hy] at H2
  have HI := fun W => isNanW_any x kd_32.wd W x0 x1
  rw [isNan_oK] at HI
  obtain ⟨m, hm⟩ : ∃ m, n / 1099511627776 = m := ⟨_, rfl⟩
  obtain ⟨q, hq⟩ : ∃ q, n / 2048 = q := ⟨_, rfl⟩
  have m0 : 0 ≤ m ∧ m < 16777216 := by omega
  have q0 : 0 ≤ q ∧ q < 9007199254740992 := by omega
  have hw : ∀ z : Int, 0 ≤ z → z < 9007199254740992 → ngs (4503599627370496 * 2048) true z = false ∧ amt (4503599627370496 * 2048) true z = z := fun z z0 z1 => by
    have g : ¬ (4503599627370496 * 2048 : Int) ≤ z % (2 * (4503599627370496 * 2048)) := by omega
    rw [ngs_p g, amt_p g]
    exact ⟨rfl, by omega⟩
  have hu : ∀ z : Int, 0 ≤ z → z < 9007199254740992 → amt (4503599627370496 * 2048) false z = z := fun z z0 z1 => by
    rw [amt_f]
    omega
  have E1 := cexact_any kd_32 kd_64 false (x := m) (by omega) (by omega)
  rw [hu m m0.1 (by omega), few kd_32 (show m.toNat < 2 ^ 24 by omega)] at E1
  have E2 := cexact_any kd_64 kd_64 true (x := q) (by omega) (by omega)
  rw [(hw q q0.1 (by omega)).2, few kd_64 (show q.toNat < 2 ^ 53 by omega)] at E2
  have F1 := fromU_any kd_32 kd_64 (x := m) (by omega) (by omega)
  have F3 := fromU_any kd_64 kd_64 (x := m) (by omega) (by omega)
  unfold makC at F1 F3
  rw [ngs_f, hu m m0.1 (by omega)] at F1 F3
  obtain ⟨c, c0, c1, hc, hd⟩ := up_word (m := m) (by omega)
  rw [hc] at F1
  have F2 := promote_any c0 c1
  rw [hd] at F2
  by_cases hz : m = 0
  · by_cases h3 : oK 8388608 256 x = 3
    · rw [if_pos h3] at H2
      rw [dt h3] at HI
      exact back_nz W mk awake_any H1 H2 (hide HI) (hide (fun W => nan_any kd_32.wd W)) hm hq E1 E2 F1 F2 F3 (eq_t hz)
    · rw [if_neg h3] at H2
      rw [df h3] at HI
      exact back_cz W mk awake_any H1 H2 (hide HI) (hide (fun W => cut_any x kd_32.wd W x0 x1)) hm hq E1 E2 F1 F2 F3 (eq_t hz)
  · have hr : IntKind.u64.wrap (-m) = 18446744073709551616 - m := by rw [IntKind.wrap_u64]; omega
    have g : (4503599627370496 * 2048 : Int) ≤ (18446744073709551616 - m) % (2 * (4503599627370496 * 2048)) := by omega
    have I1 := fromI_any kd_64 kd_64 (x := 18446744073709551616 - m) (by omega) (by omega)
    have I2 := fromI_any kd_64 kd_64 (x := m) (by omega) (by omega)
    unfold makC at I1 I2
    rw [ngs_t g, amt_t g, show 2 * (4503599627370496 * 2048) - (18446744073709551616 - m) % (2 * (4503599627370496 * 2048)) = m by omega, word_rd kd_64 true m.toNat (by omega)] at I1
    rw [(hw m m0.1 (by omega)).1, (hw m m0.1 (by omega)).2, word_rd kd_64 false m.toNat (by omega)] at I2
    have ht := word_code kd_64 m.toNat (by omega)
    have ho := or_top (Int.natCast_nonneg _) (Int.le_of_lt ht)
    by_cases h3 : oK 8388608 256 x = 3
    · rw [if_pos h3] at H2
      rw [dt h3] at HI
      exact back_np W mk awake_any H1 H2 (hide HI) (hide (fun W => nan_any kd_32.wd W)) hm hq E1 E2 F1 F2 F3 (eq_f hz) hr I1 I2 ho
    · rw [if_neg h3] at H2
      rw [df h3] at HI
      exact back_cp W mk awake_any H1 H2 (hide HI) (hide (fun W => cut_any x kd_32.wd W x0 x1)) hm hq E1 E2 F1 F2 F3 (eq_f hz) hr I1 I2 ho

set_option maxRecDepth 100000 in
theorem castBack_lifted (os : Os) (started : os.Started) (H : Type) (enc : TypeId × Value → H) :
    ReturnsInHanded {} Tryd.checked os 4 .any (fun w args => (Rows.castBackSpec.pre enc Tryd.prog Tryd.f4 [] false w args ∧ laidMetH Tryd.prog laidL w) ∧ sizedMet enc Tryd.prog Tryd.f4 (OpenSpec.ofChange Rows.castBackSpec) false w args)
      (Rows.castBackSpec.post enc Tryd.prog Tryd.f4 false true false false) := by
  refine returnsInHanded_of_change_and (C := Tryd.checked) (X := fun w _ => laidMetH Tryd.prog laidL w) (fun _ _ _ hh h => h.of_heap hh) own started (by kernel_rfl) Tryd.func4
    (ChangeSpec.witness_shaped (enc := enc) (C := Tryd.checked) (os := os) (X := fun w _ => laidMetH Tryd.prog laidL w) false (World.doorLaid Tryd.prog 400 os) #[.int .u64 0, .int .u64 0] 8 rfl (World.shaped_of_RefB (by kernel_rfl) (by kernel_rfl)) (by kernel_rfl) (by kernel_rfl) (by kernel_rfl) (door_met os _)) ?_
  intro W base args ds gs before hval0 hW _ _ hL _
  have hval : ∀ (j : Nat) t v, Tryd.f4.params[j]? = some t → args[j]? = some v → Value.okWide Tryd.prog W .any base t v := hval0
  have hW' := hW
  obtain ⟨p, q, hA0, hV, rfl, hfz, hnd⟩ := hW
  have hA : DataW.TrodAll enc Tryd.prog W 0 (fun _ => true) true Tryd.f4.params.toList args.toList ds p := hA0
  rw [Tryd.params4] at hA hval
  obtain ⟨v0, v1, d0, d1, p0, p1, rfl, rfl, rfl, h0, h1⟩ := trodAll_two hA
  obtain ⟨rfl, rfl⟩ := trodVars_none hV
  obtain ⟨x, rfl, rfl, rfl, wx⟩ := open_int Tryd.underlying22 (hval 0 22 v0 rfl rfl) h0
  obtain ⟨n, rfl, rfl, rfl, wn⟩ := open_int Tryd.underlying22 (hval 1 22 v1 rfl rfl) h1
  clear hA0 hval0
  simp only [List.append_nil] at hW'
  refine (castBack_any W (of_laid hL) x (word_of_wf wx).1 (word_of_wf wx).2 n (word_of_wf wn).1 (word_of_wf wn).2).mono fun e W' ⟨he, hb⟩ => ?_
  subst he
  exact ⟨_, rfl, ⟨_, _, _, [], [], [], hW', trodAll_mk1 (shut_bool Tryd.underlying4 _), trodAll_mk2 (shut_int Tryd.underlying22 wx) (shut_int Tryd.underlying22 wn), rfl, hb.frame _, fun h => by cases h⟩⟩

theorem castBack_row : Rows.CastBackSaid :=
  OpenClaim.holds_of_wide 4 Tryd.f4 rfl rfl rfl rfl rfl rfl rfl ⟨rfl, rfl, rfl, rfl, rfl⟩ rfl rfl rfl rfl rfl (by kernel_rfl) Tryd.func4 (by kernel_rfl)
    (of_decide_eq_true (by kernel_rfl)) (by unfold Func.isWrapper; first | (rw [if_pos (by decide +kernel)]; kernel_rfl) | (rw [if_neg (by decide +kernel)]; exact ⟨rfl, rfl⟩))
    (fun os started H enc _ => castBack_lifted os started H enc)

theorem castBack_holds : Rows.CastBackCardSaid :=
  Claim7.holds_tied_plain_at .later [] [.data] true (true, "b533c6b860269e08fb703eb5ca91adb0587cb9560a49caec69ad812cca379ee4") false
    castBack_row (fun _ h => by cases h) (by kernel_rfl) (fun _ h => by cases h) castBack_row_tie rfl ⟨rfl, rfl⟩ (by kernel_rfl) rfl
    (fun f fn hf hfn => by
      obtain rfl : f = 4 := Option.some.inj ((show Tryd.prog.funcNamed "trunnion/trunnionlaw11.CastBack" = some 4 by kernel_rfl).symm.trans hf) |>.symm
      obtain rfl : fn = Tryd.f4 := (Option.some.inj (Tryd.func4.symm.trans hfn)).symm
      exact ⟨by kernel_rfl, fun j t ht => by
        rw [Tryd.params4] at ht
        have hm : t ∈ [22, 22] := by simpa using Array.mem_of_getElem? ht
        have hall : ([22, 22].all fun u => !Tryd.prog.wantsStandIn u) = true := by kernel_rfl
        exact (show Tryd.prog.wantsStandIn t = false by simpa using List.all_eq_true.1 hall t hm)⟩)
    (by kernel_rfl)
#print axioms castBack_holds
end Go.Proofs.YtahdcbjfabccpaaDoor
