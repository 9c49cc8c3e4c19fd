/- For every int op and all uint64 a, b the law NumericSwaps answers true, and the arguments read as before: sums, products, what is bit by bit, whether two are the same, and the lesser and the greater of two don't hang on which operand comes first. The card: the five package-level variables on its road (math/bits' table of de Bruijn's numbers, package sign's marks, package numeric's groups and its two tables of types) hold what the program's own text lays in them; no other condition. -/
import Derived.Test.YtpbgpdmffejdgaaGreatDoorS01
import Derived.Test.YtpbgpdmffejdgaaGreatDoorS41
import Derived.Test.YtpbgpdmffejdgaaGreatDoorS43
import Derived.SevenTiedAt
import Derived.Test.YtpbgpdmffejdgaaGreatDoorCards
namespace Go.Proofs.YtpbgpdmffejdgaaGreatDoor
open Go.ChangeShapes Go.WideShapes Go.ChangeAt Go.WideElems Go.RowKit Go.Joins

theorem numericSwaps_any (W : World) (m : Mk W) (op : Int) (a : Int) (a0 : 0 ≤ a) (a1 : a < 18446744073709551616) (b : Int) (b0 : 0 ≤ b) (b1 : b < 18446744073709551616) :
    Calls Tryz.prog 6 #[.int .i64 op, .int .u64 a, .int .u64 b] W fun r W' => r = .returned (.bool true) ∧ Below W.heap.size W W' := by
  by_cases h : op = 70 ∨ op = 71 ∨ op = 81 ∨ op = 82 ∨ op = 91 ∨ op = 92 ∨ op = 97 ∨ op = 98 ∨ op = 106 ∨ op = 108 ∨ op = 113 ∨ op = 114 ∨ op = 115 ∨ op = 124 ∨ op = 126 ∨ op = 131 ∨ op = 132 ∨ op = 133 ∨ op = 146 ∨ op = 148 ∨ op = 150 ∨ op = 151 ∨ op = 160 ∨ op = 162 ∨ op = 164 ∨ op = 165
  · obtain ⟨r, t, h1, h2⟩ := sw_all ⟨a0, a1⟩ ⟨b0, b1⟩ h
    exact unhide (swaps_y awake_any h1 h2 h) W m
  · simp only [not_or] at h
    obtain ⟨n70, n71, n81, n82, n91, n92, n97, n98, n106, n108, n113, n114, n115, n124, n126, n131, n132, n133, n146, n148, n150, n151, n160, n162, n164, n165⟩ := h
    exact unhide (swaps_n awake_any n70 n71 n81 n82 n91 n92 n97 n98 n106 n108 n113 n114 n115 n124 n126 n131 n132 n133 n146 n148 n150 n151 n160 n162 n164 n165) W m

set_option maxRecDepth 100000 in
theorem numericSwaps_lifted (os : Os) (started : os.Started) (H : Type) (enc : TypeId × Value → H) :
    ReturnsInHanded {} Tryz.checked os 6 .any (fun w args => (Rows.numericSwapsSpec.pre enc Tryz.prog Tryz.f6 [] false w args ∧ laidMetH Tryz.prog laidL w) ∧ sizedMet enc Tryz.prog Tryz.f6 (OpenSpec.ofChange Rows.numericSwapsSpec) false w args)
      (Rows.numericSwapsSpec.post enc Tryz.prog Tryz.f6 false true false false) := by
  refine returnsInHanded_of_change_and (C := Tryz.checked) (X := fun w _ => laidMetH Tryz.prog laidL w) (fun _ _ _ hh h => h.of_heap hh) own started (by kernel_rfl) Tryz.func6
    (ChangeSpec.witness_shaped (enc := enc) (C := Tryz.checked) (os := os) (X := fun w _ => laidMetH Tryz.prog laidL w) false (World.doorLaid Tryz.prog 400 os) #[.int .i64 0, .int .u64 0, .int .u64 0] 8 rfl (World.shaped_of_RefB (by kernel_rfl) (by kernel_rfl)) (by kernel_rfl) (by kernel_rfl) (by kernel_rfl) (door_met os _)) ?_
  intro W base args ds gs before hval0 hW _ _ hL _
  have hval : ∀ (j : Nat) t v, Tryz.f6.params[j]? = some t → args[j]? = some v → Value.okWide Tryz.prog W .any base t v := hval0
  have hW' := hW
  obtain ⟨p, q, hA0, hV, rfl, hfz, hnd⟩ := hW
  have hA : DataW.TrodAll enc Tryz.prog W 0 (fun _ => true) true Tryz.f6.params.toList args.toList ds p := hA0
  rw [Tryz.params6] at hA hval
  obtain ⟨v0, v1, v2, d0, d1, d2, p0, p1, p2, rfl, rfl, rfl, h0, h1, h2⟩ := trodAll_three hA
  obtain ⟨rfl, rfl⟩ := trodVars_none hV
  obtain ⟨op, rfl, rfl, rfl, wop⟩ := open_int Tryz.underlying3 (hval 0 3 v0 rfl rfl) h0
  obtain ⟨a, rfl, rfl, rfl, wa⟩ := open_int Tryz.underlying28 (hval 1 28 v1 rfl rfl) h1
  obtain ⟨b, rfl, rfl, rfl, wb⟩ := open_int Tryz.underlying28 (hval 2 28 v2 rfl rfl) h2
  clear hA0 hval0
  simp only [List.append_nil] at hW'
  refine (numericSwaps_any W (of_laid hL) op a (uwf wa).1 (uwf wa).2 b (uwf wb).1 (uwf wb).2).mono fun e W' ⟨he, hb⟩ => ?_
  subst he
  exact ⟨_, rfl, ⟨_, _, _, [], [], [], hW', trodAll_mk1 (shut_bool Tryz.underlying4 _), trodAll_mk3 (shut_int Tryz.underlying3 wop) (shut_int Tryz.underlying28 wa) (shut_int Tryz.underlying28 wb), rfl, hb.frame _, fun h => by cases h⟩⟩

theorem numericSwaps_row : Rows.NumericSwapsSaid :=
  OpenClaim.holds_of_wide 6 Tryz.f6 rfl rfl rfl rfl rfl rfl rfl ⟨rfl, rfl, rfl, rfl, rfl⟩ rfl rfl rfl rfl rfl (by kernel_rfl) Tryz.func6 (by kernel_rfl)
    (of_decide_eq_true (by kernel_rfl)) (by unfold Func.isWrapper; first | (rw [if_pos (by decide +kernel)]; kernel_rfl) | (rw [if_neg (by decide +kernel)]; exact ⟨rfl, rfl⟩))
    (fun os started H enc _ => numericSwaps_lifted os started H enc)

theorem numericSwaps_holds : Rows.NumericSwapsCardSaid :=
  Claim7.holds_tied_plain_at .later [] [.data, .data, .data, .data, .data] true (true, "50fb756da754a8f77cfaae02c25a43016b9df52af71b1d7ea7a206649be9b0ff") false
    numericSwaps_row (fun _ h => by cases h) (by kernel_rfl) (fun _ h => by cases h) numericSwaps_row_tie rfl ⟨rfl, rfl⟩ (by kernel_rfl) rfl
    (fun f fn hf hfn => by
      obtain rfl : f = 6 := Option.some.inj ((show Tryz.prog.funcNamed "trunnion/trunnionlaw14.NumericSwaps" = some 6 by kernel_rfl).symm.trans hf) |>.symm
      obtain rfl : fn = Tryz.f6 := (Option.some.inj (Tryz.func6.symm.trans hfn)).symm
      exact ⟨by kernel_rfl, fun j t ht => by
        rw [Tryz.params6] at ht
        have hm : t ∈ [3, 28, 28] := by simpa using Array.mem_of_getElem? ht
        have hall : ([3, 28, 28].all fun u => !Tryz.prog.wantsStandIn u) = true := by kernel_rfl
        exact (show Tryz.prog.wantsStandIn t = false by simpa using List.all_eq_true.1 hall t hm)⟩)
    (by kernel_rfl)
#print axioms numericSwaps_holds
end Go.Proofs.YtpbgpdmffejdgaaGreatDoor
