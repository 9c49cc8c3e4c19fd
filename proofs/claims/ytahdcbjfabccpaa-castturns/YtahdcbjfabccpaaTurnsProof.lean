/- For every uint64 a the law CastTurns answers true, and a reads as before: any float of one width is made the document's of the other. No condition. -/
import Derived.Test.YtahdcbjfabccpaaT23
import Derived.Test.YtahdcbjfabccpaaT34
import Derived.Test.YtahdcbjfabccpaaT35
namespace Go.Proofs.Ytahdcbjfabccpaa
open Go.ChangeShapes Go.WideShapes Go.ChangeAt Go.RowKit Go.Joins
open Go.Proofs.Ytahdcbjfabccpaa.W

theorem ref_turn {w e f P Q b w' e' f' P' Q' b' x : Int} (k : Kd w e f P Q b) (k' : Kd w' e' f' P' Q' b') (x0 : 0 ≤ x) (x1 : x < 18446744073709551616) : ∃ E S, Ct 8 #[.int .i64 w, .int .u64 x] (.agg #[.bool (oN P Q x), .int .i64 (oK P Q x), .int .i64 E, .int .u64 S]) ∧ Ct 7 #[.int .i64 w', .agg #[.bool (oN P Q x), .int .i64 (oK P Q x), .int .i64 E, .int .u64 S]] (.int .u64 (turnB f' P' Q' b' (oN P Q x) (oK P Q x) (oM f P Q b x))) := by
  obtain ⟨X, S, ho, hp, hm⟩ := open_kd k x
  obtain ⟨a, c, s0, -, s1⟩ := hp.in k
  have hn := fun W => refNarrow_in k' (oN P Q x) (oK P Q x) X S s0 (by omega) (by omega) (by omega) W
  rw [narrow_turn k k' _ hp, hm] at hn
  exact ⟨X, S, hide (fun W => refOpen_any x k W x0 x1 ho), hide hn⟩
theorem castTurns_any (w : Int) (W : World) (x0 : 0 ≤ w) (x1 : w < 18446744073709551616) :
    Calls Try.prog 3 #[.int .u64 w] W fun r W' => r = .returned (.bool true) ∧ Below W.heap.size W W' := by
  obtain ⟨E1, S1, O1, N1⟩ := ref_turn kd_32 kd_64 x0 x1
  obtain ⟨E2, S2, O2, N2⟩ := ref_turn kd_64 kd_32 x0 x1
  exact turns_w W awake_any (promote_any x0 x1) O1 N1 (demote_any x0 x1) O2 N2

set_option maxRecDepth 100000 in
theorem castTurns_lifted (os : Os) (started : os.Started) (H : Type) (enc : TypeId × Value → H) :
    ReturnsInHanded {} Try.checked os 3 .any (Rows.castTurnsSpec.pre6 enc Try.prog Try.f3 Rows.castTurnsRow.domain false) (Rows.castTurnsSpec.post enc Try.prog Try.f3 false true false false) := by
  refine returnsInHanded_of_change (C := Try.checked) Try.own started (by kernel_rfl) Try.func3
    (ChangeSpec.witness6 (enc := enc) (C := Try.checked) false ⟨#[], #[.int .u64 0], []⟩ 8 (by kernel_rfl) (by kernel_rfl) (by kernel_rfl) (by kernel_rfl)) ?_
  intro W base args ds gs before hval0 hW hcnd _
  have hval : ∀ (j : Nat) t v, Try.f3.params[j]? = some t → args[j]? = some v → Value.okWide Try.prog W .any base t v := hval0
  have hW' := hW
  obtain ⟨p, q, hA0, hV, rfl, hfz, hnd⟩ := hW
  have hA : DataW.TrodAll enc Try.prog W 0 (fun _ => true) true Try.f3.params.toList args.toList ds p := hA0
  rw [Try.params3] at hA hval
  obtain ⟨v0, d0, rfl, rfl, h0⟩ := trodAll_one hA
  obtain ⟨rfl, rfl⟩ := trodVars_none hV
  obtain ⟨w, rfl, rfl, rfl, ww⟩ := open_int Try.underlying22 (hval 0 22 v0 rfl rfl) h0
  clear hA0 hval0
  simp only [List.append_nil] at hW'
  refine (castTurns_any w W (word_of_wf ww).1 (word_of_wf ww).2).mono fun e W' ⟨he, hb⟩ => ?_
  subst he
  exact ⟨_, rfl, ⟨_, _, _, [], [], [], hW', trodAll_mk1 (shut_bool Try.underlying4 _), trodAll_mk1 (shut_int Try.underlying22 ww), rfl, hb.frame _, fun h => by cases h⟩⟩

theorem castTurns_holds : Rows.CastTurnsSaid :=
  OpenClaim.holds_of_wide 3 Try.f3 rfl rfl rfl rfl rfl rfl rfl ⟨rfl, rfl, rfl, rfl, rfl⟩ rfl rfl rfl rfl rfl (by kernel_rfl) Try.func3 (by kernel_rfl)
    (of_decide_eq_true (by kernel_rfl)) (by unfold Func.isWrapper; first | (rw [if_pos (by decide +kernel)]; kernel_rfl) | (rw [if_neg (by decide +kernel)]; exact ⟨rfl, rfl⟩))
    (fun os started H enc _ => castTurns_lifted os started H enc)

#print axioms castTurns_holds
end Go.Proofs.Ytahdcbjfabccpaa
