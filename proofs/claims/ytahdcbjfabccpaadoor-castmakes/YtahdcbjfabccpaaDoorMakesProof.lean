/- For all int w, from and every uint64 n the law CastMakes answers true, and the arguments read as before: any whole number of either width, signed or not, is made the document's float of either width; whether that is exact is told. The card: math/bits' table of de Bruijn's numbers holds what the program's own text lays in it; no other condition. -/
import Derived.Test.YtahdcbjfabccpaaDoorM35
import Derived.SevenTiedAt
import Derived.Test.YtahdcbjfabccpaaDoorCards
namespace Go.Proofs.YtahdcbjfabccpaaDoor
open Go.ChangeShapes Go.WideShapes Go.ChangeAt Go.WideElems Go.RowKit Go.Joins
open Go.Proofs.YtahdcbjfabccpaaDoor.W

theorem castMakes_any (W : World) (m : Mk W) (w k : Int) (x : Int) (x0 : 0 ≤ x) (x1 : x < 18446744073709551616) :
    Calls Tryd.prog 3 #[.int .i64 w, .int .i64 k, .int .u64 x] W fun r W' => r = .returned (.bool true) ∧ Below W.heap.size W W' := by
  obtain ⟨e, f, P, Q, b, h⟩ := wd_ex w
  obtain ⟨e', f', P', Q', b', h'⟩ := wd_ex k
  have HW := fun W => refKnown_any h W
  have HK := fun W => refKnown_any h' W
  by_cases hf : f = 0
  · have no := fun s => from_no h h' (Or.inl hf) s x0 x1
    have ex := fun s => cexact_no (x := x) h h' (Or.inl hf) s
    rw [ne_f hf] at HW
    exact makes_no1 W awake_any (hide (fun W => fromUint_l W (no _))) (hide (fun W => fromInt_l W (no _))) (ex _) (ex _) (hide HW)
  · rw [ne_t hf] at HW
    by_cases hf' : f' = 0
    · have no := fun s => from_no h h' (Or.inr hf') s x0 x1
      have ex := fun s => cexact_no (x := x) h h' (Or.inr hf') s
      rw [ne_f hf'] at HK
      exact makes_no2 W awake_any (hide (fun W => fromUint_l W (no _))) (hide (fun W => fromInt_l W (no _))) (ex _) (ex _) (hide HW) (hide HK)
    · rw [ne_t hf'] at HK
      have kw := h.known hf
      have kk := h'.known hf'
      exact makes_k W m awake_any (fromU_any kw kk x0 x1) (fromI_any kw kk x0 x1) (cexact_any kw kk _ x0 x1) (cexact_any kw kk _ x0 x1) (hide HW) (hide HK) (refMake_any kw kk _ x0 x1) (refMake_any kw kk _ x0 x1) (refExact_any kw kk _ x0 x1) (refExact_any kw kk _ x0 x1)

set_option maxRecDepth 100000 in
theorem castMakes_lifted (os : Os) (started : os.Started) (H : Type) (enc : TypeId × Value → H) :
    ReturnsInHanded {} Tryd.checked os 3 .any (fun w args => (Rows.castMakesSpec.pre enc Tryd.prog Tryd.f3 [] false w args ∧ laidMetH Tryd.prog laidL w) ∧ sizedMet enc Tryd.prog Tryd.f3 (OpenSpec.ofChange Rows.castMakesSpec) false w args)
      (Rows.castMakesSpec.post enc Tryd.prog Tryd.f3 false true false false) := by
  refine returnsInHanded_of_change_and (C := Tryd.checked) (X := fun w _ => laidMetH Tryd.prog laidL w) (fun _ _ _ hh h => h.of_heap hh) own started (by kernel_rfl) Tryd.func3
    (ChangeSpec.witness_shaped (enc := enc) (C := Tryd.checked) (os := os) (X := fun w _ => laidMetH Tryd.prog laidL w) false (World.doorLaid Tryd.prog 400 os) #[.int .i64 0, .int .i64 0, .int .u64 0] 8 rfl (World.shaped_of_RefB (by kernel_rfl) (by kernel_rfl)) (by kernel_rfl) (by kernel_rfl) (by kernel_rfl) (door_met os _)) ?_
  intro W base args ds gs before hval0 hW _ _ hL _
  have hval : ∀ (j : Nat) t v, Tryd.f3.params[j]? = some t → args[j]? = some v → Value.okWide Tryd.prog W .any base t v := hval0
  have hW' := hW
  obtain ⟨p, q, hA0, hV, rfl, hfz, hnd⟩ := hW
  have hA : DataW.TrodAll enc Tryd.prog W 0 (fun _ => true) true Tryd.f3.params.toList args.toList ds p := hA0
  rw [Tryd.params3] at hA hval
  obtain ⟨v0, v1, v2, d0, d1, d2, p0, p1, p2, rfl, rfl, rfl, h0, h1, h2⟩ := trodAll_three hA
  obtain ⟨rfl, rfl⟩ := trodVars_none hV
  obtain ⟨w, rfl, rfl, rfl, ww⟩ := open_int Tryd.underlying3 (hval 0 3 v0 rfl rfl) h0
  obtain ⟨k, rfl, rfl, rfl, wk⟩ := open_int Tryd.underlying3 (hval 1 3 v1 rfl rfl) h1
  obtain ⟨x, rfl, rfl, rfl, wx⟩ := open_int Tryd.underlying22 (hval 2 22 v2 rfl rfl) h2
  clear hA0 hval0
  simp only [List.append_nil] at hW'
  refine (castMakes_any W (of_laid hL) w k x (word_of_wf wx).1 (word_of_wf wx).2).mono fun e W' ⟨he, hb⟩ => ?_
  subst he
  exact ⟨_, rfl, ⟨_, _, _, [], [], [], hW', trodAll_mk1 (shut_bool Tryd.underlying4 _), trodAll_mk3 (shut_int Tryd.underlying3 ww) (shut_int Tryd.underlying3 wk) (shut_int Tryd.underlying22 wx), rfl, hb.frame _, fun h => by cases h⟩⟩

theorem castMakes_row : Rows.CastMakesSaid :=
  OpenClaim.holds_of_wide 3 Tryd.f3 rfl rfl rfl rfl rfl rfl rfl ⟨rfl, rfl, rfl, rfl, rfl⟩ rfl rfl rfl rfl rfl (by kernel_rfl) Tryd.func3 (by kernel_rfl)
    (of_decide_eq_true (by kernel_rfl)) (by unfold Func.isWrapper; first | (rw [if_pos (by decide +kernel)]; kernel_rfl) | (rw [if_neg (by decide +kernel)]; exact ⟨rfl, rfl⟩))
    (fun os started H enc _ => castMakes_lifted os started H enc)

theorem castMakes_holds : Rows.CastMakesCardSaid :=
  Claim7.holds_tied_plain_at .later [] [.data] true (true, "b533c6b860269e08fb703eb5ca91adb0587cb9560a49caec69ad812cca379ee4") false
    castMakes_row (fun _ h => by cases h) (by kernel_rfl) (fun _ h => by cases h) castMakes_row_tie rfl ⟨rfl, rfl⟩ (by kernel_rfl) rfl
    (fun f fn hf hfn => by
      obtain rfl : f = 3 := Option.some.inj ((show Tryd.prog.funcNamed "trunnion/trunnionlaw11.CastMakes" = some 3 by kernel_rfl).symm.trans hf) |>.symm
      obtain rfl : fn = Tryd.f3 := (Option.some.inj (Tryd.func3.symm.trans hfn)).symm
      exact ⟨by kernel_rfl, fun j t ht => by
        rw [Tryd.params3] at ht
        have hm : t ∈ [3, 3, 22] := by simpa using Array.mem_of_getElem? ht
        have hall : ([3, 3, 22].all fun u => !Tryd.prog.wantsStandIn u) = true := by kernel_rfl
        exact (show Tryd.prog.wantsStandIn t = false by simpa using List.all_eq_true.1 hall t hm)⟩)
    (by kernel_rfl)
#print axioms castMakes_holds
end Go.Proofs.YtahdcbjfabccpaaDoor
