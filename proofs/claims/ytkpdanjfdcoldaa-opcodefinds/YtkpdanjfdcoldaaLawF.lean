/- OpcodeFinds. -/
import Derived.Test.YtkpdanjfdcoldaaOpN
import Derived.Test.YtkpdanjfdcoldaaOpM
namespace Go.Proofs.Ytkpdanjfdcoldaa
open Go.RowKit

theorem bs_data (b : ByteArray) : bs b.data.toList = b := by simp [bs]
/-- What is asked of the two answers. -/
def Both (x : Int) (t : Bool) (r : Int) : Prop := (0 ≤ r ∧ x = r ∧ t = true) ∨ (r = -1 ∧ x = 0 ∧ t = false)
theorem finds_long (s : ByteArray) (op : Int) (h : 100 < s.size) (W : World) : Calls Try.prog 3 #[.string s, .int .i64 op] W fun e W' => e = .returned (.bool true) ∧ Below W.heap.size W W' := by
  have HA := awake_any
  have h' : (100 : Int) < (s.size : Int) := by omega
  go_enter Try.func3, Try.ntmps3
  go_wp2_with (go_at_call 4; refine ((unhide HA) _).mono ?_; rintro _ w2 ⟨rfl, hb2⟩)
  go_ret
  exact ⟨rfl, hb2⟩
set_option maxHeartbeats 8000000 in
set_option maxRecDepth 100000 in
theorem finds_s (s : ByteArray) (op x r y : Int) (t u : Bool) (nmo : ByteArray) (h : ¬ (100 : Int) < (s.size : Int))
    (HB : Hid (∀ W, Calls Try.prog 5 #[.string s] W fun e W' => e = .returned (.tuple #[.int .i64 x, .bool t]) ∧ Below W.heap.size W W'))
    (HR : Hid (∀ W, Calls Try.prog 6 #[.string s] W fun e W' => e = .returned (.int .i64 r) ∧ Below W.heap.size W W')) (HT : Both x t r)
    (HN : Ct 7 #[.int .i64 op] (.string nmo))
    (HC : Hid (∀ W, Calls Try.prog 5 #[.string nmo] W fun e W' => e = .returned (.tuple #[.int .i64 y, .bool u]) ∧ Below W.heap.size W W')) (HE : nmo.toList.isEmpty = true ∨ (nmo.toList.isEmpty = false ∧ u = true ∧ y = op)) (W : World) :
    Calls Try.prog 3 #[.string s, .int .i64 op] W fun e W' => e = .returned (.bool true) ∧ Below W.heap.size W W' := by
  have HA := awake_any
  rcases HT with ⟨hr, rfl, rfl⟩ | ⟨rfl, rfl, rfl⟩
  · have hm : (x != max x 0) = false := by
      have : max x 0 = x := by omega
      rw [this]; simp
    have hr' : decide (0 ≤ x) = true := by simp [hr]
    go_enter Try.func3, Try.ntmps3
    go_wp2_with (go_at_call 4; refine ((unhide HA) _).mono ?_; rintro _ w2 ⟨rfl, hb2⟩)
    refine ((unhide HB) _).mono ?_
    rintro _ w3 ⟨rfl, hb3⟩
    go_wp2_with (go_at_call 6; refine ((unhide HR) _).mono ?_; rintro _ w4 ⟨rfl, hb4⟩)
    refine ((unhide HN) _).mono ?_
    rintro _ w5 ⟨rfl, hb5⟩
    rcases HE with he | ⟨he, rfl, rfl⟩
    · go_wp2_with fail
      go_ret
      exact ⟨rfl, bthen (bthen (bthen hb2 hb3) hb4) hb5⟩
    · go_wp2_with fail
      refine ((unhide HC) _).mono ?_
      rintro _ w6 ⟨rfl, hb6⟩
      go_wp2_with fail
      go_ret
      exact ⟨rfl, bthen (bthen (bthen (bthen hb2 hb3) hb4) hb5) hb6⟩
  · go_enter Try.func3, Try.ntmps3
    go_wp2_with (go_at_call 4; refine ((unhide HA) _).mono ?_; rintro _ w2 ⟨rfl, hb2⟩)
    refine ((unhide HB) _).mono ?_
    rintro _ w3 ⟨rfl, hb3⟩
    go_wp2_with (go_at_call 6; refine ((unhide HR) _).mono ?_; rintro _ w4 ⟨rfl, hb4⟩)
    refine ((unhide HN) _).mono ?_
    rintro _ w5 ⟨rfl, hb5⟩
    rcases HE with he | ⟨he, rfl, rfl⟩
    · go_wp2_with fail
      go_ret
      exact ⟨rfl, bthen (bthen (bthen hb2 hb3) hb4) hb5⟩
    · go_wp2_with fail
      refine ((unhide HC) _).mono ?_
      rintro _ w6 ⟨rfl, hb6⟩
      go_wp2_with fail
      go_ret
      exact ⟨rfl, bthen (bthen (bthen (bthen hb2 hb3) hb4) hb5) hb6⟩

end Go.Proofs.Ytkpdanjfdcoldaa
