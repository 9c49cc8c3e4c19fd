/- WMulA, CsA. -/
import Derived.Test.YtpbgpdmffejdgaaGreatDoorS01
import Derived.Test.YtpbgpdmffejdgaaGreatDoorS13
namespace Go.Proofs.YtpbgpdmffejdgaaGreatDoor.W

theorem val_set : ∀ (D : List Nat) (j e : Nat), j < D.length → val (D.set j e) + dg D j * pw j = val D + e * pw j
  | [], j, e, h => by simp at h
  | d :: r, 0, e, _ => by simp [val, dg, pw_0]; omega
  | d :: r, j + 1, e, h => by
    have ih := val_set r j e (by simpa using h)
    simp only [List.set_cons_succ, val, dg, List.getD_cons_succ, pw_succ] at ih ⊢
    have e1 : r.getD j 0 * (pw j * 4294967296) = 4294967296 * (r.getD j 0 * pw j) := by rw [← Nat.mul_assoc, Nat.mul_comm]
    have e2 : e * (pw j * 4294967296) = 4294967296 * (e * pw j) := by rw [← Nat.mul_assoc, Nat.mul_comm]
    rw [e1, e2]
    omega
theorem small_set {D : List Nat} {j e : Nat} (h : Small D) (he : e < 4294967296) : Small (D.set j e) := by
  intro x hx
  rcases List.mem_or_eq_of_mem_set hx with hx | rfl
  · exact h x hx
  · exact he
theorem dg_lt {D : List Nat} (h : Small D) (j : Nat) : dg D j < 4294967296 := by
  rw [at_val D j h]; exact Nat.mod_lt _ (by omega)
theorem dg_set {D : List Nat} {j e i : Nat} (h : j < D.length) : dg (D.set j e) i = if j = i then e else dg D i := by
  unfold dg
  by_cases hji : j = i
  · subst hji
    simp [List.getD_eq_getElem?_getD, h]
  · simp [List.getD_eq_getElem?_getD, hji]

/-- Row i of the product, up to digit k. -/
def MulTo (x y i k cy : Nat) (D : List Nat) : Prop := Small D ∧ cy < 4294967296 ∧ val D + cy * pw (i + k) + dgt x i * (y / pw k) * pw (i + k) = x % pw (i + 1) * y

theorem mod_next (x i : Nat) : x % pw (i + 1) = x % pw i + dgt x i * pw i := by
  unfold dgt
  rw [pw_succ, Nat.mod_mul, Nat.mul_comm (pw i)]
theorem mulTo_start {x y i : Nat} {D : List Nat} (hs : Small D) (h : val D = x % pw i * y) : MulTo x y i 0 0 D := by
  refine ⟨hs, by omega, ?_⟩
  rw [mod_next, Nat.add_mul, h, pw_0, Nat.div_one, Nat.zero_mul, Nat.add_zero, Nat.add_zero]
  congr 1
  rw [Nat.mul_assoc, Nat.mul_comm y, ← Nat.mul_assoc]
theorem mul_fits {d a b c : Nat} (hd : d < 4294967296) (ha : a < 4294967296) (hb : b < 4294967296) (hc : c < 4294967296) : d + a * b + c < 18446744073709551616 := by
  have := Nat.mul_le_mul (show a ≤ 4294967295 by omega) (show b ≤ 4294967295 by omega)
  omega
theorem mulTo_step {x y i k cy : Nat} {D : List Nat} (h : MulTo x y i k cy D) (hj : i + k < D.length) :
    MulTo x y i (k + 1) ((dg D (i + k) + dgt x i * dgt y k + cy) / 4294967296) (D.set (i + k) ((dg D (i + k) + dgt x i * dgt y k + cy) % 4294967296)) := by
  obtain ⟨hs, hc, he⟩ := h
  have hf := mul_fits (dg_lt hs (i + k)) (dgt_lt x i) (dgt_lt y k) hc
  refine ⟨small_set hs (Nat.mod_lt _ (by omega)), by omega, ?_⟩
  have hv := val_set D (i + k) ((dg D (i + k) + dgt x i * dgt y k + cy) % 4294967296) hj
  have hy := div_pw_succ y k
  generalize hS : dg D (i + k) + dgt x i * dgt y k + cy = s at *
  rw [← he, hy, ← Nat.add_assoc, pw_succ]
  generalize y / pw (k + 1) = Y at *
  generalize pw (i + k) = p at *
  generalize val (D.set (i + k) (s % 4294967296)) = V at *
  generalize dgt x i = A at *
  generalize dgt y k = b at *
  have e1 : s / 4294967296 * (p * 4294967296) = (4294967296 * (s / 4294967296)) * p := by
    rw [Nat.mul_comm p, ← Nat.mul_assoc, Nat.mul_comm (s / 4294967296)]
  have e2 : (s % 4294967296) * p + (4294967296 * (s / 4294967296)) * p = s * p := by rw [← Nat.add_mul, Nat.mod_add_div]
  have e3 : s * p = dg D (i + k) * p + A * b * p + cy * p := by rw [← hS, Nat.add_mul, Nat.add_mul]
  have e4 : A * Y * (p * 4294967296) = A * (Y * 4294967296) * p := by
    rw [Nat.mul_comm p, ← Nat.mul_assoc, Nat.mul_assoc A]
  have e5 : A * (Y * 4294967296 + b) * p = A * (Y * 4294967296) * p + A * b * p := by rw [Nat.mul_add, Nat.add_mul]
  rw [e1, e4]
  first
  | rw [e5]; omega
  | (rw [Nat.mul_comm 4294967296 Y, Nat.add_comm b, e5]; omega)
  | (rw [Nat.mul_comm 4294967296 Y, e5]; omega)
theorem mulTo_end {x y i k m : Nat} {D : List Nat} (h : MulTo x y i k 0 D) (hk : m ≤ k) (hy : y < pw m) : val D = x % pw (i + 1) * y := by
  obtain ⟨_, _, he⟩ := h
  rw [Nat.div_eq_of_lt (Nat.lt_of_lt_of_le hy (pw_le hk)), Nat.mul_zero, Nat.zero_mul, Nat.add_zero] at he
  omega
theorem pw_lt_of {i j : Nat} (h : pw i < pw j) : i < j := by
  refine Decidable.byContradiction fun hn => ?_
  have := pw_le (show j ≤ i by omega)
  omega
theorem mulTo_in {x y i k m cy : Nat} {D : List Nat} (h : MulTo x y i k cy D) (h0 : 0 < cy) (hy : y < pw m) : k ≤ m := by
  obtain ⟨_, _, he⟩ := h
  have h1 : x % pw (i + 1) * y < pw (i + 1) * pw m := by
    have a1 := Nat.mod_lt x (pw_pos (i + 1))
    exact Nat.mul_lt_mul'' a1 hy
  rw [← pw_add] at h1
  have h2 : pw (i + k) ≤ cy * pw (i + k) := Nat.le_mul_of_pos_left _ h0
  have := pw_lt_of (show pw (i + k) < pw (i + 1 + m) by omega)
  omega
theorem mul_wraps (d a b c : Nat) (hd : d < 4294967296) (ha : a < 4294967296) (hb : b < 4294967296) (hc : c < 4294967296) :
    IntKind.u64.wrap (IntKind.u64.wrap ((d : Int) + IntKind.u64.wrap ((a : Int) * (b : Int))) + (c : Int)) = ((d + a * b + c : Nat) : Int) := by
  have h := mul_fits hd ha hb hc
  rw [← Int.natCast_mul]
  generalize a * b = t at *
  rw [IntKind.wrap_u64, IntKind.wrap_u64, IntKind.wrap_u64]
  omega

end Go.Proofs.YtpbgpdmffejdgaaGreatDoor.W
namespace Go.Proofs.YtpbgpdmffejdgaaGreatDoor
open Go.RowKit

set_option maxHeartbeats 4000000 in
set_option maxRecDepth 100000 in
theorem split_i32_n {x y R : Int} (W : World) (g : x < 0) (h1 : IntKind.u64.wrap x = y) (h2 : IntKind.u64.wrap (-y) = R) :
    Calls Tryz.prog 271 #[.int .i32 x] W fun r W' => r = .returned (.tuple #[.bool true, .int .u64 R]) ∧ Below W.heap.size W W' := by
  have HB := hide (Below.refl W.heap.size W)
  go_enter Tryz.func271, Tryz.ntmps271
  go_wp2_with fail
  go_ret2
  exact ⟨rfl, unhide HB⟩
set_option maxHeartbeats 4000000 in
set_option maxRecDepth 100000 in
theorem split_i32_p {x R : Int} (W : World) (g : ¬ x < 0) (h1 : IntKind.u64.wrap x = R) :
    Calls Tryz.prog 271 #[.int .i32 x] W fun r W' => r = .returned (.tuple #[.bool false, .int .u64 R]) ∧ Below W.heap.size W W' := by
  have HB := hide (Below.refl W.heap.size W)
  go_enter Tryz.func271, Tryz.ntmps271
  go_wp2_with fail
  go_ret2
  exact ⟨rfl, unhide HB⟩
set_option maxHeartbeats 4000000 in
set_option maxRecDepth 100000 in
theorem split_u32_p {x R : Int} (W : World) (g : ¬ x < 0) (h1 : IntKind.u64.wrap x = R) :
    Calls Tryz.prog 272 #[.int .u32 x] W fun r W' => r = .returned (.tuple #[.bool false, .int .u64 R]) ∧ Below W.heap.size W W' := by
  have HB := hide (Below.refl W.heap.size W)
  go_enter Tryz.func272, Tryz.ntmps272
  go_wp2_with fail
  go_ret2
  exact ⟨rfl, unhide HB⟩
set_option maxHeartbeats 4000000 in
set_option maxRecDepth 100000 in
theorem split_i64_n {x y R : Int} (W : World) (g : x < 0) (h1 : IntKind.u64.wrap x = y) (h2 : IntKind.u64.wrap (-y) = R) :
    Calls Tryz.prog 273 #[.int .i64 x] W fun r W' => r = .returned (.tuple #[.bool true, .int .u64 R]) ∧ Below W.heap.size W W' := by
  have HB := hide (Below.refl W.heap.size W)
  go_enter Tryz.func273, Tryz.ntmps273
  go_wp2_with fail
  go_ret2
  exact ⟨rfl, unhide HB⟩
set_option maxHeartbeats 4000000 in
set_option maxRecDepth 100000 in
theorem split_i64_p {x R : Int} (W : World) (g : ¬ x < 0) (h1 : IntKind.u64.wrap x = R) :
    Calls Tryz.prog 273 #[.int .i64 x] W fun r W' => r = .returned (.tuple #[.bool false, .int .u64 R]) ∧ Below W.heap.size W W' := by
  have HB := hide (Below.refl W.heap.size W)
  go_enter Tryz.func273, Tryz.ntmps273
  go_wp2_with fail
  go_ret2
  exact ⟨rfl, unhide HB⟩
set_option maxHeartbeats 4000000 in
set_option maxRecDepth 100000 in
theorem split_u64_p {x : Int} (W : World) (g : ¬ x < 0) :
    Calls Tryz.prog 274 #[.int .u64 x] W fun r W' => r = .returned (.tuple #[.bool false, .int .u64 x]) ∧ Below W.heap.size W W' := by
  have HB := hide (Below.refl W.heap.size W)
  go_enter Tryz.func274, Tryz.ntmps274
  go_wp2_with fail
  go_ret2
  exact ⟨rfl, unhide HB⟩
set_option maxHeartbeats 4000000 in
set_option maxRecDepth 100000 in
theorem number_32_t {x a y : Int} {m : Bool} (W : World) (h1 : IntKind.i32.wrap x = y) (HS : Ct 271 #[.int .i32 y] (.tuple #[.bool m, .int .u64 a])) :
    Calls Tryz.prog 249 #[.int .i64 32, .int .u64 x, .bool true] W fun r W' => r = .returned (.tuple #[.bool m, .int .u64 a]) ∧ Below W.heap.size W W' := by
  have HB := hide (Below.refl W.heap.size W)
  go_enter Tryz.func249, Tryz.ntmps249
  go_wp2_with fail
  refine (unhide HS _).mono ?_
  rintro _ w1 ⟨rfl, hb⟩
  have HB := hide (bthen (unhide HB) hb)
  clear hb
  go_wp2_with fail
  go_ret2
  exact ⟨rfl, unhide HB⟩
set_option maxHeartbeats 4000000 in
set_option maxRecDepth 100000 in
theorem number_32_f {x a y : Int} {m : Bool} (W : World) (h1 : IntKind.u32.wrap x = y) (HS : Ct 272 #[.int .u32 y] (.tuple #[.bool m, .int .u64 a])) :
    Calls Tryz.prog 249 #[.int .i64 32, .int .u64 x, .bool false] W fun r W' => r = .returned (.tuple #[.bool m, .int .u64 a]) ∧ Below W.heap.size W W' := by
  have HB := hide (Below.refl W.heap.size W)
  go_enter Tryz.func249, Tryz.ntmps249
  go_wp2_with fail
  refine (unhide HS _).mono ?_
  rintro _ w1 ⟨rfl, hb⟩
  have HB := hide (bthen (unhide HB) hb)
  clear hb
  go_wp2_with fail
  go_ret2
  exact ⟨rfl, unhide HB⟩
set_option maxHeartbeats 4000000 in
set_option maxRecDepth 100000 in
theorem number_64_t {x a y : Int} {m : Bool} (W : World) (h1 : IntKind.i64.wrap x = y) (HS : Ct 273 #[.int .i64 y] (.tuple #[.bool m, .int .u64 a])) :
    Calls Tryz.prog 249 #[.int .i64 64, .int .u64 x, .bool true] W fun r W' => r = .returned (.tuple #[.bool m, .int .u64 a]) ∧ Below W.heap.size W W' := by
  have HB := hide (Below.refl W.heap.size W)
  go_enter Tryz.func249, Tryz.ntmps249
  go_wp2_with fail
  refine (unhide HS _).mono ?_
  rintro _ w1 ⟨rfl, hb⟩
  have HB := hide (bthen (unhide HB) hb)
  clear hb
  go_wp2_with fail
  go_ret2
  exact ⟨rfl, unhide HB⟩
set_option maxHeartbeats 4000000 in
set_option maxRecDepth 100000 in
theorem number_64_f {x a : Int} {m : Bool} (W : World) (HS : Ct 274 #[.int .u64 x] (.tuple #[.bool m, .int .u64 a])) :
    Calls Tryz.prog 249 #[.int .i64 64, .int .u64 x, .bool false] W fun r W' => r = .returned (.tuple #[.bool m, .int .u64 a]) ∧ Below W.heap.size W W' := by
  have HB := hide (Below.refl W.heap.size W)
  go_enter Tryz.func249, Tryz.ntmps249
  go_wp2_with fail
  refine (unhide HS _).mono ?_
  rintro _ w1 ⟨rfl, hb⟩
  have HB := hide (bthen (unhide HB) hb)
  clear hb
  go_wp2_with fail
  go_ret2
  exact ⟨rfl, unhide HB⟩
set_option maxHeartbeats 4000000 in
set_option maxRecDepth 100000 in
theorem whole_f {w x h l V : Int} (W : World) (HO : Ct 161 #[.int .u64 x] (.agg #[.int .u64 h, .int .u64 l])) (HP : Ct 160 #[.int .i64 w, .bool false, .agg #[.int .u64 h, .int .u64 l], .int .i64 0, .bool false] (.int .u64 V)) :
    Calls Tryz.prog 250 #[.int .i64 w, .bool false, .int .u64 x] W fun r W' => r = .returned (.int .u64 V) ∧ Below W.heap.size W W' := by
  have HB := hide (Below.refl W.heap.size W)
  go_enter Tryz.func250, Tryz.ntmps250
  go_wp2_with fail
  refine (unhide HO _).mono ?_
  rintro _ w1 ⟨rfl, hb⟩
  have HB := hide (bthen (unhide HB) hb)
  clear hb
  go_wp2_with fail
  refine (unhide HP _).mono ?_
  rintro _ w2 ⟨rfl, hb⟩
  have HB := hide (bthen (unhide HB) hb)
  clear hb
  go_wp2_with fail
  go_ret
  exact ⟨rfl, unhide HB⟩
set_option maxHeartbeats 4000000 in
set_option maxRecDepth 100000 in
theorem whole_t {w x h l V : Int} {nb : Bool} (W : World) (hx : (x != 0) = nb) (HO : Ct 161 #[.int .u64 x] (.agg #[.int .u64 h, .int .u64 l])) (HP : Ct 160 #[.int .i64 w, .bool nb, .agg #[.int .u64 h, .int .u64 l], .int .i64 0, .bool false] (.int .u64 V)) :
    Calls Tryz.prog 250 #[.int .i64 w, .bool true, .int .u64 x] W fun r W' => r = .returned (.int .u64 V) ∧ Below W.heap.size W W' := by
  have HB := hide (Below.refl W.heap.size W)
  go_enter Tryz.func250, Tryz.ntmps250
  go_wp2_with fail
  refine (unhide HO _).mono ?_
  rintro _ w1 ⟨rfl, hb⟩
  have HB := hide (bthen (unhide HB) hb)
  clear hb
  go_wp2_with fail
  refine (unhide HP _).mono ?_
  rintro _ w2 ⟨rfl, hb⟩
  have HB := hide (bthen (unhide HB) hb)
  clear hb
  go_wp2_with fail
  go_ret
  exact ⟨rfl, unhide HB⟩
set_option maxHeartbeats 4000000 in
set_option maxRecDepth 100000 in
theorem nearest_l {w k x a V : Int} {s m : Bool} (W : World) (HN : Ct 249 #[.int .i64 k, .int .u64 x, .bool s] (.tuple #[.bool m, .int .u64 a])) (HW : Ct 250 #[.int .i64 w, .bool m, .int .u64 a] (.int .u64 V)) :
    Calls Tryz.prog 169 #[.int .i64 w, .int .i64 k, .int .u64 x, .bool s] W fun r W' => r = .returned (.int .u64 V) ∧ Below W.heap.size W W' := by
  have HB := hide (Below.refl W.heap.size W)
  go_enter Tryz.func169, Tryz.ntmps169
  go_wp2_with fail
  refine (unhide HN _).mono ?_
  rintro _ w1 ⟨rfl, hb⟩
  have HB := hide (bthen (unhide HB) hb)
  clear hb
  go_wp2_with fail
  refine (unhide HW _).mono ?_
  rintro _ w2 ⟨rfl, hb⟩
  have HB := hide (bthen (unhide HB) hb)
  clear hb
  go_wp2_with fail
  go_ret
  exact ⟨rfl, unhide HB⟩
set_option maxHeartbeats 4000000 in
set_option maxRecDepth 100000 in
theorem fromUint_l {w k x V : Int} (W : World) (HN : Ct 169 #[.int .i64 w, .int .i64 k, .int .u64 x, .bool false] (.int .u64 V)) :
    Calls Tryz.prog 94 #[.int .i64 w, .int .i64 k, .int .u64 x] W fun r W' => r = .returned (.int .u64 V) ∧ Below W.heap.size W W' := by
  have HB := hide (Below.refl W.heap.size W)
  go_enter Tryz.func94, Tryz.ntmps94
  go_wp2_with fail
  refine (unhide HN _).mono ?_
  rintro _ w1 ⟨rfl, hb⟩
  have HB := hide (bthen (unhide HB) hb)
  clear hb
  go_wp2_with fail
  go_ret
  exact ⟨rfl, unhide HB⟩
set_option maxHeartbeats 4000000 in
set_option maxRecDepth 100000 in
theorem fromInt_l {w k x V : Int} (W : World) (HN : Ct 169 #[.int .i64 w, .int .i64 k, .int .u64 x, .bool true] (.int .u64 V)) :
    Calls Tryz.prog 93 #[.int .i64 w, .int .i64 k, .int .u64 x] W fun r W' => r = .returned (.int .u64 V) ∧ Below W.heap.size W W' := by
  have HB := hide (Below.refl W.heap.size W)
  go_enter Tryz.func93, Tryz.ntmps93
  go_wp2_with fail
  refine (unhide HN _).mono ?_
  rintro _ w1 ⟨rfl, hb⟩
  have HB := hide (bthen (unhide HB) hb)
  clear hb
  go_wp2_with fail
  go_ret
  exact ⟨rfl, unhide HB⟩
set_option maxHeartbeats 4000000 in
set_option maxRecDepth 100000 in
theorem promote_l {x K E S V : Int} {n : Bool} (W : World) (HO : Ct 15 #[.int .i64 32, .int .u64 x] (.agg #[.bool n, .int .i64 K, .int .i64 E, .int .u64 S])) (HN : Ct 170 #[.int .i64 64, .agg #[.bool n, .int .i64 K, .int .i64 E, .int .u64 S]] (.int .u64 V)) :
    Calls Tryz.prog 96 #[.int .u64 x] W fun r W' => r = .returned (.int .u64 V) ∧ Below W.heap.size W W' := by
  have HB := hide (Below.refl W.heap.size W)
  go_enter Tryz.func96, Tryz.ntmps96
  go_wp2_with fail
  refine (unhide HO _).mono ?_
  rintro _ w1 ⟨rfl, hb⟩
  have HB := hide (bthen (unhide HB) hb)
  clear hb
  go_wp2_with fail
  refine (unhide HN _).mono ?_
  rintro _ w2 ⟨rfl, hb⟩
  have HB := hide (bthen (unhide HB) hb)
  clear hb
  go_wp2_with fail
  go_ret
  exact ⟨rfl, unhide HB⟩
set_option maxHeartbeats 4000000 in
set_option maxRecDepth 100000 in
theorem demote_l {x K E S V : Int} {n : Bool} (W : World) (HO : Ct 15 #[.int .i64 64, .int .u64 x] (.agg #[.bool n, .int .i64 K, .int .i64 E, .int .u64 S])) (HN : Ct 170 #[.int .i64 32, .agg #[.bool n, .int .i64 K, .int .i64 E, .int .u64 S]] (.int .u64 V)) :
    Calls Tryz.prog 95 #[.int .u64 x] W fun r W' => r = .returned (.int .u64 V) ∧ Below W.heap.size W W' := by
  have HB := hide (Below.refl W.heap.size W)
  go_enter Tryz.func95, Tryz.ntmps95
  go_wp2_with fail
  refine (unhide HO _).mono ?_
  rintro _ w1 ⟨rfl, hb⟩
  have HB := hide (bthen (unhide HB) hb)
  clear hb
  go_wp2_with fail
  refine (unhide HN _).mono ?_
  rintro _ w2 ⟨rfl, hb⟩
  have HB := hide (bthen (unhide HB) hb)
  clear hb
  go_wp2_with fail
  go_ret
  exact ⟨rfl, unhide HB⟩
end Go.Proofs.YtpbgpdmffejdgaaGreatDoor
