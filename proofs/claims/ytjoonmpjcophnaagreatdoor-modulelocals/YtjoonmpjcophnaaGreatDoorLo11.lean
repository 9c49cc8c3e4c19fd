/- LbC. -/
import Derived.Test.YtjoonmpjcophnaaGreatDoorLo06
namespace Go.Proofs.YtjoonmpjcophnaaGreatDoor
open Go.RowKit

set_option maxHeartbeats 1000000 in
set_option maxRecDepth 100000 in
theorem uint_w {a : Option Addr} {len cap : Nat} {k bits z n e : Int} {W : World}
    (HR : Calls Tryz.prog 96 #[.slice a len cap, .int .i64 k, .int .i64 bits, .func (.func 97) #[] #[]] W fun r W' => r = .returned (.tuple #[.int .u64 z, .int .i64 n, .int .i64 e]) ∧ Below W.heap.size W W') :
    Calls Tryz.prog 67 #[.slice a len cap, .int .i64 k, .int .i64 bits] W fun r W' => r = .returned (.tuple #[.int .u64 z, .int .i64 n, .int .i64 e]) ∧ Below W.heap.size W W' := by
  have HR := hide HR
  go_enter Tryz.func67, Tryz.ntmps67
  go_wp2_with fail
  refine (unhide HR).mono ?_
  rintro _ w1 ⟨rfl, hb1⟩
  go_wp2_with fail
  exact bodyPost_ret (v := .tuple #[.int .u64 z, .int .i64 n, .int .i64 e]) (by simp [results, Tryz.results67, go_sem]) rfl ⟨rfl, hb1⟩
set_option maxHeartbeats 1000000 in
set_option maxRecDepth 100000 in
theorem sint_w {a : Option Addr} {len cap : Nat} {k bits z n e : Int} {W : World}
    (HR : Calls Tryz.prog 96 #[.slice a len cap, .int .i64 k, .int .i64 bits, .func (.func 189) #[] #[]] W fun r W' => r = .returned (.tuple #[.int .u64 z, .int .i64 n, .int .i64 e]) ∧ Below W.heap.size W W') :
    Calls Tryz.prog 186 #[.slice a len cap, .int .i64 k, .int .i64 bits] W fun r W' => r = .returned (.tuple #[.int .u64 z, .int .i64 n, .int .i64 e]) ∧ Below W.heap.size W W' := by
  have HR := hide HR
  go_enter Tryz.func186, Tryz.ntmps186
  go_wp2_with fail
  refine (unhide HR).mono ?_
  rintro _ w1 ⟨rfl, hb1⟩
  go_wp2_with fail
  exact bodyPost_ret (v := .tuple #[.int .u64 z, .int .i64 n, .int .i64 e]) (by simp [results, Tryz.results186, go_sem]) rfl ⟨rfl, hb1⟩
set_option maxHeartbeats 1000000 in
set_option maxRecDepth 100000 in
/-- A power of two. -/
theorem two_any (n : Nat) (hn : n ≤ 63) : Ct 103 #[.int .i64 (n : Int)] (.int .u64 ((2 ^ n : Nat) : Int)) := by
  refine hide (fun W => ?_)
  have HP := hide (show ∀ i : Nat, i < n → 2 * 2 ^ i < 18446744073709551616 from fun i hi => by
    have : 2 ^ (i + 1) ≤ 2 ^ 63 := Nat.pow_le_pow_right (by omega) (by omega)
    rw [Nat.pow_succ] at this
    omega)
  go_enter Tryz.func103, Tryz.ntmps103
  go_wp2_with fail
  go_loop [3, 4] (fun p i => ∃ j : Nat, j ≤ n ∧ i = .int .i64 (j : Int) ∧ p = .int .u64 ((2 ^ j : Nat) : Int)) (fun _ i => n - (intOf i).toNat)
  case atStart => exact ⟨0, by omega, rfl, rfl⟩
  case round =>
    obtain ⟨j, hj, rfl, rfl⟩ := hrel
    by_cases h : j < n
    · have h2 := unhide HP j h
      have e : 2 * ((2 ^ j : Nat) : Int) = ((2 ^ (j + 1) : Nat) : Int) := by
        rw [Nat.pow_succ]
        generalize 2 ^ j = p at *
        omega
      have E := hide e
      clear e
      generalize 2 ^ j = p at *
      go_wp2_with fail
      refine ⟨⟨j + 1, by omega, by go_num, ?_⟩, by simp [intOf]; omega⟩
      rw [← unhide E]
    · have : j = n := by omega
      subst this
      go_wp2_with fail
      go_ret
      exact ⟨rfl, Below.refl _ _⟩
end Go.Proofs.YtjoonmpjcophnaaGreatDoor
