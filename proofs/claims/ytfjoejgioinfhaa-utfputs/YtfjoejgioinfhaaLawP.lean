/- The law UtfPuts: its walks. -/
import Derived.Test.YtfjoejgioinfhaaUtI
namespace Go.Proofs.Ytfjoejgioinfhaa
open Go.RowKit

set_option maxHeartbeats 1000000 in
set_option maxRecDepth 100000 in
theorem puts_no {c : Int} (W : World) (h1 : -2147483648 ≤ c) (h2 : c < 2147483648) (h : sz c = 0) : Calls Try.prog 4 #[.int .i32 c] W fun r W' => r = .returned (.bool true) ∧ Below W.heap.size W W' := by
  have HA := awake_any
  have HP := hide (put_no h)
  have HR := hide (rput_any c)
  unfold RPut at HR
  have HE : Hid (put c = []) := hide (by unfold put; rw [h]; rfl)
  rw [h, unhide HE] at HR
  clear h
  go_enter Try.func4, Try.ntmps4
  go_wp2_with fail
  refine (unhide HA _).mono ?_
  rintro _ w1 ⟨rfl, hb⟩
  have HB := hide hb
  clear hb
  go_wp2_with fail
  refine (unhide HP _).mono ?_
  rintro _ w2 ⟨rfl, hb⟩
  have HB := hide (bthen (unhide HB) hb)
  clear hb
  go_wp2_with fail
  refine (unhide HR _).mono ?_
  rintro _ w3 ⟨a, cap, rfl, hS, hb⟩
  have HB := hide (bthen (unhide HB) hb)
  have hc1 := conv_run hS
  have hc2 := conv_run (sl_none w3)
  clear hb hS
  go_wp2_with fail
  go_ret
  exact ⟨by first | rfl | simp, unhide HB⟩
set_option maxHeartbeats 1000000 in
set_option maxRecDepth 100000 in
theorem puts_yes {c : Int} (W : World) (h1 : -2147483648 ≤ c) (h2 : c < 2147483648) (h : sz c ≠ 0) : Calls Try.prog 4 #[.int .i32 c] W fun r W' => r = .returned (.bool true) ∧ Below W.heap.size W W' := by
  have HA := awake_any
  have HP := hide (put_yes h)
  have HR := hide (rput_any c)
  unfold RPut at HR
  obtain ⟨z, hz⟩ : ∃ z, sz c = z := ⟨_, rfl⟩
  rw [hz] at HP HR h
  have h0 : 0 < (z : Int) := by omega
  clear h hz
  go_enter Try.func4, Try.ntmps4
  go_wp2_with fail
  refine (unhide HA _).mono ?_
  rintro _ w1 ⟨rfl, hb⟩
  have HB := hide hb
  clear hb
  go_wp2_with fail
  refine (unhide HP _).mono ?_
  rintro _ w2 ⟨g, cap, rfl, hS, hb⟩
  have HB := hide (bthen (unhide HB) hb)
  have HS := hide hS
  clear hb hS
  go_wp2_with fail
  refine (unhide HR _).mono ?_
  rintro _ w3 ⟨a, cap, rfl, hS, hb⟩
  have HB := hide (bthen (unhide HB) hb)
  have hc1 := conv_run hS
  have hc2 := conv_run ((unhide HS).below hb)
  clear hb hS
  go_wp2_with fail
  go_ret
  exact ⟨by first | rfl | simp, unhide HB⟩
theorem puts_any (c : Int) (W : World) (h1 : -2147483648 ≤ c) (h2 : c < 2147483648) : Calls Try.prog 4 #[.int .i32 c] W fun r W' => r = .returned (.bool true) ∧ Below W.heap.size W W' := by
  by_cases h : sz c = 0
  · exact puts_no W h1 h2 h
  · exact puts_yes W h1 h2 h
end Go.Proofs.Ytfjoejgioinfhaa
