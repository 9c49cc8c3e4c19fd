/- For every int w and all uint64 a, b the law SignTurns answers true, and the arguments read as before: the signs of any two floats, and what is made of them, are the document's. The card: package sign's variable holds what the program's own text lays in it; no other condition. -/
import Derived.Test.YtahaocnlclkeaaaDoorLaid
import Derived.SevenTiedAt
import Derived.Test.YtahaocnlclkeaaaDoorCards
namespace Go.Proofs.YtahaocnlclkeaaaDoor
open Go.ChangeShapes Go.WideShapes Go.ChangeAt Go.WideElems Go.RowKit Go.Joins

theorem signTurns_any (W : World) (m : Mk W) (w : Int) (x : Int) (x0 : 0 ≤ x) (x1 : x < 18446744073709551616) (y : Int) (y0 : 0 ≤ y) (y1 : y < 18446744073709551616) :
    Calls Tryd.prog 3 #[.int .i64 w, .int .u64 x, .int .u64 y] W fun r W' => r = .returned (.bool true) ∧ Below W.heap.size W W' := by
  obtain ⟨e, f, P, Q, b, h⟩ := wd_ex w
  have HK := fun W => refKnown_any h W
  have HA := abs_any h x0 x1
  have HG := neg_any h x0 x1
  have HC := copy_any h x0 x1 y0 y1
  have HI := is_any h x0 x1
  by_cases hf : f = 0
  · rw [show (f != 0) = false by simp [hf]] at HK
    have z : ∀ n, sN f P Q n x = 0 := fun n => if_pos hf
    rw [z] at HA HG HC
    rw [show isN f P Q x = false by unfold isN; simp [hf]] at HI
    exact turns_no W m awake_any (hide HK) HA HG HC HI
  · have k := h.known hf
    rw [show (f != 0) = true by simp [hf]] at HK
    rw [show isN f P Q x = sg P Q x by unfold isN; simp [hf]] at HI
    exact turns_k W m awake_any (hide HK) (hide (fun W => refNeg_any x k W x0 x1)) (hide (fun W => refNeg_any y k W y0 y1)) HI HA (with_any k false x0 x1) HG (with_any k _ x0 x1) HC (with_any k _ x0 x1)

set_option maxRecDepth 100000 in
theorem signTurns_lifted (os : Os) (started : os.Started) (H : Type) (enc : TypeId × Value → H) :
    ReturnsInHanded {} Tryd.checked os 3 .any (fun w args => (Rows.signTurnsSpec.pre enc Tryd.prog Tryd.f3 [] false w args ∧ laidMetH Tryd.prog laidL w) ∧ sizedMet enc Tryd.prog Tryd.f3 (OpenSpec.ofChange Rows.signTurnsSpec) false w args)
      (Rows.signTurnsSpec.post enc Tryd.prog Tryd.f3 false true false false) := by
  refine returnsInHanded_of_change_and (C := Tryd.checked) (X := fun w _ => laidMetH Tryd.prog laidL w) (fun _ _ _ hh h => h.of_heap hh) own started (by kernel_rfl) Tryd.func3
    (ChangeSpec.witness_shaped (enc := enc) (C := Tryd.checked) (os := os) (X := fun w _ => laidMetH Tryd.prog laidL w) false (World.doorLaid Tryd.prog 400 os) #[.int .i64 0, .int .u64 0, .int .u64 0] 8 rfl (World.shaped_of_RefB (by kernel_rfl) (by kernel_rfl)) (by kernel_rfl) (by kernel_rfl) (by kernel_rfl) (door_met os _)) ?_
  intro W base args ds gs before hval0 hW _ _ hL _
  have hval : ∀ (j : Nat) t v, Tryd.f3.params[j]? = some t → args[j]? = some v → Value.okWide Tryd.prog W .any base t v := hval0
  have hW' := hW
  obtain ⟨p, q, hA0, hV, rfl, hfz, hnd⟩ := hW
  have hA : DataW.TrodAll enc Tryd.prog W 0 (fun _ => true) true Tryd.f3.params.toList args.toList ds p := hA0
  rw [Tryd.params3] at hA hval
  obtain ⟨v0, v1, v2, d0, d1, d2, p0, p1, p2, rfl, rfl, rfl, h0, h1, h2⟩ := trodAll_three hA
  obtain ⟨rfl, rfl⟩ := trodVars_none hV
  obtain ⟨w, rfl, rfl, rfl, ww⟩ := open_int Tryd.underlying3 (hval 0 3 v0 rfl rfl) h0
  obtain ⟨x, rfl, rfl, rfl, wx⟩ := open_int Tryd.underlying22 (hval 1 22 v1 rfl rfl) h1
  obtain ⟨y, rfl, rfl, rfl, wy⟩ := open_int Tryd.underlying22 (hval 2 22 v2 rfl rfl) h2
  clear hA0 hval0
  simp only [List.append_nil] at hW'
  refine (signTurns_any W (of_laid hL) w x (word_of_wf wx).1 (word_of_wf wx).2 y (word_of_wf wy).1 (word_of_wf wy).2).mono fun e W' ⟨he, hb⟩ => ?_
  subst he
  exact ⟨_, rfl, ⟨_, _, _, [], [], [], hW', trodAll_mk1 (shut_bool Tryd.underlying4 _), trodAll_mk3 (shut_int Tryd.underlying3 ww) (shut_int Tryd.underlying22 wx) (shut_int Tryd.underlying22 wy), rfl, hb.frame _, fun h => by cases h⟩⟩

theorem signTurns_row : Rows.SignTurnsSaid :=
  OpenClaim.holds_of_wide 3 Tryd.f3 rfl rfl rfl rfl rfl rfl rfl ⟨rfl, rfl, rfl, rfl, rfl⟩ rfl rfl rfl rfl rfl (by kernel_rfl) Tryd.func3 (by kernel_rfl)
    (of_decide_eq_true (by kernel_rfl)) (by unfold Func.isWrapper; first | (rw [if_pos (by decide +kernel)]; kernel_rfl) | (rw [if_neg (by decide +kernel)]; exact ⟨rfl, rfl⟩))
    (fun os started H enc _ => signTurns_lifted os started H enc)

theorem signTurns_holds : Rows.SignTurnsCardSaid :=
  Claim7.holds_tied_plain_at .later [] [.data] true (true, "c489d0937c9c0de1d4e2e55ed1b6c0591882bd91f37181ad56f5818765d81770") false
    signTurns_row (fun _ h => by cases h) (by kernel_rfl) (fun _ h => by cases h) signTurns_row_tie rfl ⟨rfl, rfl⟩ (by kernel_rfl) rfl
    (fun f fn hf hfn => by
      obtain rfl : f = 3 := Option.some.inj ((show Tryd.prog.funcNamed "trunnion/trunnionlaw10.SignTurns" = some 3 by kernel_rfl).symm.trans hf) |>.symm
      obtain rfl : fn = Tryd.f3 := (Option.some.inj (Tryd.func3.symm.trans hfn)).symm
      exact ⟨by kernel_rfl, fun j t ht => by
        rw [Tryd.params3] at ht
        have hm : t ∈ [3, 22, 22] := by simpa using Array.mem_of_getElem? ht
        have hall : ([3, 22, 22].all fun u => !Tryd.prog.wantsStandIn u) = true := by kernel_rfl
        exact (show Tryd.prog.wantsStandIn t = false by simpa using List.all_eq_true.1 hall t hm)⟩)
    (by kernel_rfl)
#print axioms signTurns_holds
end Go.Proofs.YtahaocnlclkeaaaDoor
