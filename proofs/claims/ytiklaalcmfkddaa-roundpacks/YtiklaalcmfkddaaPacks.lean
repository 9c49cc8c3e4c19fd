/- The statement RoundPacks: its walk. -/
import Derived.Test.YtiklaalcmfkddaaWhole
namespace Go.Proofs.Ytiklaalcmfkddaa
open Go.RowKit
open Go.Proofs.Ytiklaalcmfkddaa.W

set_option maxRecDepth 100000 in
set_option maxHeartbeats 2000000 in
theorem packs_k {w h l X A : Int} {n m : Bool} (W : World) (HP : Hid (∀ W, Calls Try.prog 8 #[.int .i64 w, .bool n, .agg #[.int .u64 h, .int .u64 l], .int .i64 X, .bool m] W fun r W' => r = .returned (.int .u64 A) ∧ Below W.heap.size W W')) (HK : Hid (∀ W, Calls Try.prog 9 #[.int .i64 w] W fun r W' => r = .returned (.bool true) ∧ Below W.heap.size W W')) (HR : Hid (∀ W, Calls Try.prog 10 #[.int .i64 w, .bool n, .int .u64 h, .int .u64 l, .int .i64 X, .bool m] W fun r W' => r = .returned (.int .u64 A) ∧ Below W.heap.size W W')) :
    Calls Try.prog 3 #[.int .i64 w, .agg #[.bool n, .int .u64 h, .int .u64 l, .int .i64 X, .bool m]] W fun r W' => r = .returned (.bool true) ∧ Below W.heap.size W W' := by
  go_enter Try.func3, Try.ntmps3
  go_wp2_with fail
  refine (awake_any _).mono ?_
  rintro _ w1 ⟨rfl, hbl⟩
  have HA := hide ((at5_new W (.bool n) (.int .u64 h) (.int .u64 l) (.int .i64 X) (.bool m) 26).below hbl)
  have HB := hide (bthen (below1 _ _) hbl)
  clear hbl
  obtain ⟨a0, a1, a2, a3, a4⟩ := unhide HA
  go_wp2_with fail
  refine (unhide HP _).mono ?_
  rintro _ w2 ⟨rfl, hbl⟩
  have HB := hide (bthen (unhide HB) hbl)
  have HA := hide ((unhide HA).below hbl)
  clear hbl a0 a1 a2 a3 a4
  obtain ⟨a0, a1, a2, a3, a4⟩ := unhide HA
  go_wp2_with fail
  refine (unhide HK _).mono ?_
  rintro _ w3 ⟨rfl, hbl⟩
  have HB := hide (bthen (unhide HB) hbl)
  have HA := hide ((unhide HA).below hbl)
  clear hbl a0 a1 a2 a3 a4
  obtain ⟨a0, a1, a2, a3, a4⟩ := unhide HA
  go_wp2_with fail
  refine (unhide HR _).mono ?_
  rintro _ w4 ⟨rfl, hbl⟩
  have HB := hide (bthen (unhide HB) hbl)
  have HA := hide ((unhide HA).below hbl)
  clear hbl a0 a1 a2 a3 a4
  go_wp2_with fail
  go_ret
  exact ⟨by simp, unhide HB⟩

set_option maxRecDepth 100000 in
set_option maxHeartbeats 2000000 in
theorem packs_no {w h l X : Int} {n m : Bool} (W : World) (HP : Hid (∀ W, Calls Try.prog 8 #[.int .i64 w, .bool n, .agg #[.int .u64 h, .int .u64 l], .int .i64 X, .bool m] W fun r W' => r = .returned (.int .u64 0) ∧ Below W.heap.size W W')) (HK : Hid (∀ W, Calls Try.prog 9 #[.int .i64 w] W fun r W' => r = .returned (.bool false) ∧ Below W.heap.size W W'))  :
    Calls Try.prog 3 #[.int .i64 w, .agg #[.bool n, .int .u64 h, .int .u64 l, .int .i64 X, .bool m]] W fun r W' => r = .returned (.bool true) ∧ Below W.heap.size W W' := by
  go_enter Try.func3, Try.ntmps3
  go_wp2_with fail
  refine (awake_any _).mono ?_
  rintro _ w1 ⟨rfl, hbl⟩
  have HA := hide ((at5_new W (.bool n) (.int .u64 h) (.int .u64 l) (.int .i64 X) (.bool m) 26).below hbl)
  have HB := hide (bthen (below1 _ _) hbl)
  clear hbl
  obtain ⟨a0, a1, a2, a3, a4⟩ := unhide HA
  go_wp2_with fail
  refine (unhide HP _).mono ?_
  rintro _ w2 ⟨rfl, hbl⟩
  have HB := hide (bthen (unhide HB) hbl)
  have HA := hide ((unhide HA).below hbl)
  clear hbl a0 a1 a2 a3 a4
  obtain ⟨a0, a1, a2, a3, a4⟩ := unhide HA
  go_wp2_with fail
  refine (unhide HK _).mono ?_
  rintro _ w3 ⟨rfl, hbl⟩
  have HB := hide (bthen (unhide HB) hbl)
  have HA := hide ((unhide HA).below hbl)
  clear hbl a0 a1 a2 a3 a4
  obtain ⟨a0, a1, a2, a3, a4⟩ := unhide HA
  go_wp2_with fail
  go_ret
  exact ⟨by simp, unhide HB⟩

end Go.Proofs.Ytiklaalcmfkddaa
