/- For every Way x and every uint64 a the law ChopBack answers true, and the arguments read as before: where nothing traps both ways are the same; a whole number that is cast exactly is chopped to what it was. The card: math/bits' table of de Bruijn's numbers holds what the program's own text lays in it; no other condition. -/
import Derived.Test.YtmbkpmcmhmldgaaDoorB04
import Derived.Test.YtmbkpmcmhmldgaaDoorB06
import Derived.Test.YtmbkpmcmhmldgaaDoorB20
import Derived.Test.YtmbkpmcmhmldgaaDoorB28
import Derived.SevenTiedAt
import Derived.Test.YtmbkpmcmhmldgaaDoorCards
namespace Go.Proofs.YtmbkpmcmhmldgaaDoor
open Go.ChangeShapes Go.WideShapes Go.ChangeAt Go.WideElems Go.RowKit Go.Joins
open Go.Proofs.YtmbkpmcmhmldgaaDoor.W

theorem caw_1 : trN 52 4503599627370496 2048 1023 (8388608 * 256) false 13829653735729319117 = 0 ∧ tvN 52 4503599627370496 2048 1023 (8388608 * 256) false 13829653735729319117 = 0 := by decide +kernel
theorem caw_2 : trN 52 4503599627370496 2048 1023 (8388608 * 256) false 13840687554816376832 = 3 ∧ tvN 52 4503599627370496 2048 1023 (8388608 * 256) false 13840687554816376832 = 0 ∧ vaN 52 4503599627370496 2048 1023 (8388608 * 256) false 13840687554816376832 = 0 := by decide +kernel
theorem caw_3 : vaN 52 4503599627370496 2048 1023 (8388608 * 256) true 4617315517961601024 = 5 := by decide +kernel
theorem awake_any : Ct 4 #[] (.bool true) := by
  have h1 := trap_any kd_64 kd_32 false (x := 13829653735729319117) (by omega) (by omega)
  have h2 := trap_any kd_64 kd_32 false (x := 13840687554816376832) (by omega) (by omega)
  have h3 := sat_any kd_64 kd_32 false (x := 13840687554816376832) (by omega) (by omega)
  have h4 := sat_any kd_64 kd_32 true (x := 4617315517961601024) (by omega) (by omega)
  rw [caw_1.1, caw_1.2] at h1
  rw [caw_2.1, caw_2.2.1] at h2
  rw [caw_2.2.2] at h3
  rw [caw_3] at h4
  exact hide (fun W => awake_l W h1 h2 h3 h4)

theorem chT_fin {H K : Int} {s n : Bool} {z : Nat} (k3 : K ≠ 3) (k2 : K ≠ 2) (h : (z : Int) ≤ endE H s n) : chT H s n K z = 0 := by unfold chT; rw [if_neg k3, if_neg k2, if_pos h]
theorem chV_fin {H K : Int} {s n : Bool} {z : Nat} (k3 : K ≠ 3) (k2 : K ≠ 2) (h : (z : Int) ≤ endE H s n) : chV H s n K z = sgd H n z := by unfold chV; rw [if_neg k3, if_neg k2, if_pos h]
theorem amt_ends {w e f P Q b : Int} (k : Kd w e f P Q b) (s : Bool) (x : Int) : amt (P * Q) s x ≤ endE (P * Q) s (ngs (P * Q) s x) ∧ sgd (P * Q) (ngs (P * Q) s x) (amt (P * Q) s x) = x % (2 * (P * Q)) := by
  have hk := kd_half k
  generalize P * Q = H at *
  have hm : 0 ≤ x % (2 * H) ∧ x % (2 * H) < 2 * H := ⟨Int.emod_nonneg _ (by omega), Int.emod_lt_of_pos _ (by omega)⟩
  cases s
  · rw [amt_f, ngs_f]
    refine ⟨?_, rfl⟩
    show x % (2 * H) ≤ 2 * H - 1
    omega
  · by_cases h : H ≤ x % (2 * H)
    · rw [amt_t h, ngs_t h]
      refine ⟨?_, ?_⟩
      · show 2 * H - x % (2 * H) ≤ H
        omega
      · show -(2 * H - x % (2 * H)) % (2 * H) = x % (2 * H)
        generalize x % (2 * H) = y at *
        rcases hk with ⟨-, rfl⟩ | ⟨-, rfl⟩ <;> omega
    · rw [amt_p h, ngs_p h]
      refine ⟨?_, rfl⟩
      show x % (2 * H) ≤ H - 1
      omega
/-- What is cast exactly is chopped to what it was. -/
theorem back_exact {w e f P Q b k e' f' P' Q' b' : Int} (kw : Kd w e f P Q b) (kk : Kd k e' f' P' Q' b') (s : Bool) (x : Int) (hx : exB f b (amt (P' * Q') s x).toNat = true) :
    ∃ F, makC f P Q b (P' * Q') s x = F ∧ 0 ≤ F ∧ F < 18446744073709551616 ∧ trN f P Q b (P' * Q') s F = 0 ∧ tvN f P Q b (P' * Q') s F = x % (2 * (P' * Q')) := by
  obtain ⟨a0, a1, -⟩ := amt_in kk s x
  obtain ⟨e1, e2⟩ := amt_ends kk s x
  obtain ⟨a, ha⟩ := Int.eq_ofNat_of_zero_le a0
  have hc := word_code kw a (by omega)
  obtain ⟨g0, g1, -, g3, g4, g5, g6⟩ := fl_parts kw (ngs (P' * Q') s x) hc
  refine ⟨_, rfl, ?_⟩
  unfold makC
  rw [ha, Int.toNat_natCast] at hx
  rw [ha] at e1 e2
  rw [ha, Int.toNat_natCast, word_rd kw _ a (by omega)]
  have hq : wq (oM f P Q b (fl f P Q (ngs (P' * Q') s x) (code f.toNat (lowN f b) (a * 2 ^ Z5) : Nat))) = a := by
    rw [g6]
    unfold exB at hx
    rw [of_decide_eq_true hx]
    unfold wq
    exact Nat.mul_div_cancel _ (Nat.two_pow_pos Z5)
  have hT : trN f P Q b (P' * Q') s (fl f P Q (ngs (P' * Q') s x) (code f.toNat (lowN f b) (a * 2 ^ Z5) : Nat)) = 0 := by
    unfold trN
    rw [g3, hq]
    exact chT_fin g4 g5 e1
  refine ⟨g0, g1, hT, ?_⟩
  unfold tvN
  rw [if_pos hT]
  unfold vaN
  rw [g3, hq, chV_fin g4 g5 e1, e2]
theorem cut_shift {k e f P Q b : Int} (kk : Kd k e f P Q b) (x : Int) : IntKind.i64.wrap (64 - k) = 64 - k ∧ 0 ≤ 64 - k ∧ 64 - k < 64 ∧ IntKind.u64.wrap (x * 2 ^ (64 - k).toNat) / 2 ^ (64 - k).toNat = x % (2 * (P * Q)) := by
  rcases kd_half kk with ⟨rfl, h⟩ | ⟨rfl, h⟩ <;> rw [h]
  · refine ⟨by decide, by decide, by decide, ?_⟩
    rw [show (2 : Int) ^ (64 - 32 : Int).toNat = 4294967296 by decide, IntKind.wrap_u64]
    omega
  · refine ⟨by decide, by decide, by decide, ?_⟩
    rw [show (2 : Int) ^ (64 - 64 : Int).toNat = 1 by decide, IntKind.wrap_u64]
    omega
theorem chopBack_any (W : World) (m : Mk W) (w k : Int) (s : Bool) (x : Int) (x0 : 0 ≤ x) (x1 : x < 18446744073709551616) :
    Calls Tryd.prog 3 #[.agg #[.int .i64 w, .int .i64 k, .bool s], .int .u64 x] W fun r W' => r = .returned (.bool true) ∧ Below W.heap.size W W' := by
  obtain ⟨e, f, P, Q, b, h⟩ := wd_ex w
  obtain ⟨e', f', P', Q', b', h'⟩ := wd_ex k
  by_cases hn : f = 0 ∨ f' = 0
  · exact back_0n W m awake_any (trap_none h h' hn s x0 x1) (sat_none h h' hn s x0 x1) (hide (fun W _ => unhide (cexact_no (x := x) h h' hn s) W))
  · have kw := h.known (fun g => hn (Or.inl g))
    have kk := h'.known (fun g => hn (Or.inr g))
    have HT := trap_any kw kk s x0 x1
    have HS := sat_any kw kk s x0 x1
    have HE := cexact_any kw kk s x0 x1
    obtain ⟨hc, d0, d1, hs⟩ := cut_shift kk x
    unfold tvN at HT
    by_cases hx : exB f b (amt (P' * Q') s x).toNat = true
    · obtain ⟨F, hF, F0, F1, hT, hV⟩ := back_exact kw kk s x hx
      have H6 := trap_any kw kk s F0 F1
      rw [hT, hV] at H6
      rw [hx] at HE
      have HU := fromU_any kw kk x0 x1
      have HI := fromI_any kw kk x0 x1
      by_cases ht : trN f P Q b (P' * Q') s x = 0
      · rw [if_pos ht, ht] at HT
        cases s
        · rw [hF] at HU
          exact back_0f W m awake_any HT HS HE HU H6 hc d0 d1 rfl hs
        · rw [hF] at HI
          exact back_0t W m awake_any HT HS HE HU HI H6 hc d0 d1 rfl hs
      · rw [if_neg ht] at HT
        cases s
        · rw [hF] at HU
          exact back_tf W m awake_any HT (eq_f ht) (ne_t ht) HE HU H6 hc d0 d1 rfl hs
        · rw [hF] at HI
          exact back_tt W m awake_any HT (eq_f ht) (ne_t ht) HE HU HI H6 hc d0 d1 rfl hs
    · rw [show exB f b (amt (P' * Q') s x).toNat = false by simpa using hx] at HE
      by_cases ht : trN f P Q b (P' * Q') s x = 0
      · rw [if_pos ht, ht] at HT
        exact back_0n W m awake_any HT HS HE
      · rw [if_neg ht] at HT
        exact back_tn W m awake_any HT (eq_f ht) (ne_t ht) HE
theorem cWay : Tryd.prog.cellsOf 23 = 3 := by kernel_rfl
set_option maxRecDepth 100000 in
/-- A Way that came in, and how it reads in any later memory. -/
theorem open_way {H : Type} {enc : TypeId × Value → H} {W : World} {base : Nat} {v : Value} {d : DataW H} {p : List MemPlace} {bs : Nat} {sp : Nat → Bool} {hd : Bool}
    (hv : Value.okWide Tryd.prog W .any base 23 v) (h : DataW.Trod enc Tryd.prog W bs sp hd 23 v d p) :
    ∃ (w k : Int) (s : Bool), v = .agg #[.int .i64 w, .int .i64 k, .bool s] ∧ p = [] ∧ ∀ (W' : World) (bs' : Nat) (sp' : Nat → Bool) (hd' : Bool), DataW.Trod enc Tryd.prog W' bs' sp' hd' 23 v d [] := by
  obtain ⟨c0, c1, c2, y0, y1, y2, m, rfl, rfl, rfl, hy0, hy1, hy2⟩ := open_agg3 Tryd.underlying23 (by kernel_rfl) cWay hv h
  obtain ⟨w, e0, rfl, ww⟩ := DataW.trod_int Tryd.underlying3 hy0
  obtain ⟨k, e1, rfl, wk⟩ := DataW.trod_int Tryd.underlying3 hy1
  obtain ⟨s, e2, rfl⟩ := DataW.trod_bool Tryd.underlying4 hy2
  simp at e0 e1 e2
  subst e0 e1 e2
  exact ⟨w, k, s, rfl, rfl, fun W' bs' sp' hd' =>
    shut_agg3 (y0 := (.lit (.int .i64 w), [])) (y1 := (.lit (.int .i64 k), [])) (y2 := (.lit (.bool s), [])) Tryd.underlying23 (by kernel_rfl) cWay ⟨1, by simp [DataW.trod, Tryd.underlying3, ww]⟩ ⟨1, by simp [DataW.trod, Tryd.underlying3, wk]⟩ ⟨1, by simp [DataW.trod, Tryd.underlying4]⟩⟩

set_option maxRecDepth 100000 in
theorem chopBack_lifted (os : Os) (started : os.Started) (H : Type) (enc : TypeId × Value → H) :
    ReturnsInHanded {} Tryd.checked os 3 .any (fun w args => (Rows.chopBackSpec.pre enc Tryd.prog Tryd.f3 [] false w args ∧ laidMetH Tryd.prog laidL w) ∧ sizedMet enc Tryd.prog Tryd.f3 (OpenSpec.ofChange Rows.chopBackSpec) false w args)
      (Rows.chopBackSpec.post enc Tryd.prog Tryd.f3 false true false false) := by
  refine returnsInHanded_of_change_and (C := Tryd.checked) (X := fun w _ => laidMetH Tryd.prog laidL w) (fun _ _ _ hh h => h.of_heap hh) own started (by kernel_rfl) Tryd.func3
    (ChangeSpec.witness_shaped (enc := enc) (C := Tryd.checked) (os := os) (X := fun w _ => laidMetH Tryd.prog laidL w) false (World.doorLaid Tryd.prog 400 os) #[.agg #[.int .i64 0, .int .i64 0, .bool false], .int .u64 0] 8 rfl (World.shaped_of_RefB (by kernel_rfl) (by kernel_rfl)) (by kernel_rfl) (by kernel_rfl) (by kernel_rfl) (door_met os _)) ?_
  intro W base args ds gs before hval0 hW _ _ hL _
  have hval : ∀ (j : Nat) t v, Tryd.f3.params[j]? = some t → args[j]? = some v → Value.okWide Tryd.prog W .any base t v := hval0
  have hW' := hW
  obtain ⟨p, q, hA0, hV, rfl, hfz, hnd⟩ := hW
  have hA : DataW.TrodAll enc Tryd.prog W 0 (fun _ => true) true Tryd.f3.params.toList args.toList ds p := hA0
  rw [Tryd.params3] at hA hval
  obtain ⟨v0, v1, d0, d1, p0, p1, rfl, rfl, rfl, h0, h1⟩ := trodAll_two hA
  obtain ⟨rfl, rfl⟩ := trodVars_none hV
  obtain ⟨w, k, s, rfl, rfl, rd⟩ := open_way (hval 0 23 v0 rfl rfl) h0
  obtain ⟨x, rfl, rfl, rfl, wx⟩ := open_int Tryd.underlying24 (hval 1 24 v1 rfl rfl) h1
  clear hA0 hval0
  simp only [List.append_nil] at hW'
  refine (chopBack_any W (of_laid hL) w k s x (word_of_wf wx).1 (word_of_wf wx).2).mono fun e W' ⟨he, hb⟩ => ?_
  subst he
  exact ⟨_, rfl, ⟨_, _, _, [], [], [], hW', trodAll_mk1 (shut_bool Tryd.underlying4 _), trodAll_mk2 (rd _ _ _ _) (shut_int Tryd.underlying24 wx), rfl, hb.frame _, fun h => by cases h⟩⟩

theorem chopBack_row : Rows.ChopBackSaid :=
  OpenClaim.holds_of_wide 3 Tryd.f3 rfl rfl rfl rfl rfl rfl rfl ⟨rfl, rfl, rfl, rfl, rfl⟩ rfl rfl rfl rfl rfl (by kernel_rfl) Tryd.func3 (by kernel_rfl)
    (of_decide_eq_true (by kernel_rfl)) (by unfold Func.isWrapper; first | (rw [if_pos (by decide +kernel)]; kernel_rfl) | (rw [if_neg (by decide +kernel)]; exact ⟨rfl, rfl⟩))
    (fun os started H enc _ => chopBack_lifted os started H enc)

theorem chopBack_holds : Rows.ChopBackCardSaid :=
  Claim7.holds_tied_plain_at .later [] [.data] true (true, "b4b4a34bffe705eddf427396e976288f0a4e3d303a64d1230a9fb3ba127a83ad") false
    chopBack_row (fun _ h => by cases h) (by kernel_rfl) (fun _ h => by cases h) chopBack_row_tie rfl ⟨rfl, rfl⟩ (by kernel_rfl) rfl
    (fun f fn hf hfn => by
      obtain rfl : f = 3 := Option.some.inj ((show Tryd.prog.funcNamed "trunnion/trunnionlaw12.ChopBack" = some 3 by kernel_rfl).symm.trans hf) |>.symm
      obtain rfl : fn = Tryd.f3 := (Option.some.inj (Tryd.func3.symm.trans hfn)).symm
      exact ⟨by kernel_rfl, fun j t ht => by
        rw [Tryd.params3] at ht
        have hm : t ∈ [23, 24] := by simpa using Array.mem_of_getElem? ht
        have hall : ([23, 24].all fun u => !Tryd.prog.wantsStandIn u) = true := by kernel_rfl
        exact (show Tryd.prog.wantsStandIn t = false by simpa using List.all_eq_true.1 hall t hm)⟩)
    (by kernel_rfl)
#print axioms chopBack_holds
end Go.Proofs.YtmbkpmcmhmldgaaDoor
