/- CsT. -/
import Derived.Test.YtahdcbjfabccpaaDoorB04
import Derived.Test.YtahdcbjfabccpaaDoorB12
import Derived.Test.YtahdcbjfabccpaaDoorB13
import Derived.Lib.TrailingZeros
namespace Go.Proofs.YtahdcbjfabccpaaDoor
open Go.RowKit
open Go.Proofs.YtahdcbjfabccpaaDoor.W

/-- The table of de Bruijn's numbers, in its variable. -/
def Mk (W : World) : Prop := ∀ j, j < 64 → W.cell? ⟨0, j, none⟩ = some (.int .u8 (Lib.deBruijn64tab.getD j 0 : Nat))
theorem Mk.below {w w' : World} (h : Mk w) (hb : Below w.heap.size w w') : Mk w' := fun j hj => keep1 hb (lt_of_cell (h j hj)) (h j hj)
/-- What a function answers where the table is so. -/
def Cm (f : Nat) (args : Array Value) (res : Value) : Prop := Hid (∀ W, Mk W → Calls Tryd.prog f args W fun r W' => r = .returned res ∧ Below W.heap.size W W')

set_option maxHeartbeats 1000000 in
theorem tz_core (x k idx : Nat) (W : World) (hx0 : ((x : Int) == 0) = false)
    (key : IntKind.u64.wrap (bits BinOp.and IntKind.u64 (x : Int) (IntKind.u64.wrap (-(x : Int))) * 285870213051353865) / 288230376151711744 = (idx : Int))
    (hi : idx < 64) (hk : k < 64) (hcell : W.cell? ⟨0, idx, none⟩ = some (.int .u8 k)) :
    Calls Tryd.prog 43 #[.int .u64 x] W fun r W' => r = .returned (.int .i64 k) ∧ W' = W := by
  go_enter Tryd.func43, Tryd.ntmps43
  go_wp2_with (simp only [key])
  go_ret
  exact ⟨rfl, rfl⟩
theorem tz_zero (W : World) : Calls Tryd.prog 43 #[.int .u64 0] W fun r W' => r = .returned (.int .i64 64) ∧ W' = W := by
  go_enter Tryd.func43, Tryd.ntmps43
  go_wp2
  go_ret
  exact ⟨rfl, rfl⟩
theorem neg_word {x : Nat} (h0 : x ≠ 0) (h1 : x < 18446744073709551616) : IntKind.u64.wrap (-(x : Int)) = ((18446744073709551616 - x : Nat) : Int) := by rw [IntKind.wrap_u64]; omega
theorem low_word {x a : Nat} (h0 : x ≠ 0) (h1 : x < 18446744073709551616) (hl : x &&& (18446744073709551616 - x) = a) :
    IntKind.u64.wrap (bits BinOp.and IntKind.u64 (x : Int) (IntKind.u64.wrap (-(x : Int))) * 285870213051353865) / 288230376151711744 = ((a * 285870213051353865 % 18446744073709551616 / 288230376151711744 : Nat) : Int) := by
  rw [neg_word h0 h1, Go.bits_and_u64_nat x _ h1 (by omega), hl, IntKind.wrap_u64]
  omega
theorem tz_any (x : Nat) (h1 : x < 18446744073709551616) (W : World) (m : Mk W) :
    Calls Tryd.prog 43 #[.int .u64 x] W fun r W' => r = .returned (.int .i64 (Lib.ctz 64 x : Nat)) ∧ W' = W := by
  by_cases h0 : x = 0
  · subst h0
    exact tz_zero W
  · obtain ⟨hl, hk⟩ := Lib.lowest_bit 64 x h0 h1
    obtain ⟨hi, ht⟩ := Lib.deBruijn64_at _ hk
    have hc := m _ hi
    rw [ht] at hc
    exact tz_core x _ _ W (by simp; omega) (low_word h0 h1 hl) hi hk hc

set_option maxHeartbeats 4000000 in
set_option maxRecDepth 100000 in
theorem span_z (W : World) (HM : Hid (Mk W)) (HT : Hid (∀ W, Mk W → Calls Tryd.prog 43 #[.int .u64 0] W fun r W' => r = .returned (.int .i64 64) ∧ Below W.heap.size W W')) (HL : Ct 42 #[.int .u64 0] (.int .i64 0)) :
    Calls Tryd.prog 21 #[.int .u64 0] W fun r W' => r = .returned (.int .i64 0) ∧ Below W.heap.size W W' := by
  have HB := hide (Below.refl W.heap.size W)
  go_enter Tryd.func21, Tryd.ntmps21
  go_wp2_with fail
  refine (unhide HT _ (unhide HM)).mono ?_
  rintro _ w1 ⟨rfl, hb⟩
  have HB := hide (bthen (unhide HB) hb)
  have HM := hide ((unhide HM).below hb)
  clear hb
  go_wp2_with fail
  refine (unhide HL _).mono ?_
  rintro _ w2 ⟨rfl, hb⟩
  have HB := hide (bthen (unhide HB) hb)
  have HM := hide ((unhide HM).below hb)
  clear hb
  go_wp2_with fail
  go_ret
  exact ⟨rfl, unhide HB⟩
set_option maxHeartbeats 4000000 in
set_option maxRecDepth 100000 in
theorem span_n {x t y L : Int} (W : World) (HM : Hid (Mk W)) (t0 : 0 ≤ t) (t1 : t < 64) (HT : Cm 43 #[.int .u64 x] (.int .i64 t)) (h : x / 2 ^ t.toNat = y) (HL : Ct 42 #[.int .u64 y] (.int .i64 L)) :
    Calls Tryd.prog 21 #[.int .u64 x] W fun r W' => r = .returned (.int .i64 L) ∧ Below W.heap.size W W' := by
  have HB := hide (Below.refl W.heap.size W)
  go_enter Tryd.func21, Tryd.ntmps21
  go_wp2_with fail
  refine (unhide HT _ (unhide HM)).mono ?_
  rintro _ w1 ⟨rfl, hb⟩
  have HB := hide (bthen (unhide HB) hb)
  have HM := hide ((unhide HM).below hb)
  clear hb
  go_wp2_with fail
  refine (unhide HL _).mono ?_
  rintro _ w2 ⟨rfl, hb⟩
  have HB := hide (bthen (unhide HB) hb)
  have HM := hide ((unhide HM).below hb)
  clear hb
  go_wp2_with fail
  go_ret
  exact ⟨rfl, unhide HB⟩
set_option maxHeartbeats 4000000 in
set_option maxRecDepth 100000 in
theorem cknown_l {w e f : Int} (W : World) (HF : Ct 20 #[.int .i64 w] (.tuple #[.int .i64 e, .int .i64 f])) :
    Calls Tryd.prog 18 #[.int .i64 w] W fun r W' => r = .returned (.bool (e != 0)) ∧ Below W.heap.size W W' := by
  have HB := hide (Below.refl W.heap.size W)
  go_enter Tryd.func18, Tryd.ntmps18
  go_wp2_with fail
  refine (unhide HF _).mono ?_
  rintro _ w1 ⟨rfl, hb⟩
  have HB := hide (bthen (unhide HB) hb)
  clear hb
  go_wp2_with fail
  go_ret
  exact ⟨rfl, unhide HB⟩
set_option maxHeartbeats 4000000 in
set_option maxRecDepth 100000 in
theorem exact_yes {w k x a e f g L : Int} {s m : Bool} (W : World) (HM : Hid (Mk W)) (HW : Ct 18 #[.int .i64 w] (.bool true)) (HK : Ct 18 #[.int .i64 k] (.bool true)) (HN : Ct 19 #[.int .i64 k, .int .u64 x, .bool s] (.tuple #[.bool m, .int .u64 a])) (HF : Ct 20 #[.int .i64 w] (.tuple #[.int .i64 e, .int .i64 f])) (h : IntKind.i64.wrap (f + 1) = g) (HS : Cm 21 #[.int .u64 a] (.int .i64 L)) :
    Calls Tryd.prog 8 #[.int .i64 w, .int .i64 k, .int .u64 x, .bool s] W fun r W' => r = .returned (.bool (decide (L ≤ g))) ∧ Below W.heap.size W W' := by
  have HB := hide (Below.refl W.heap.size W)
  go_enter Tryd.func8, Tryd.ntmps8
  go_wp2_with fail
  refine (unhide HW _).mono ?_
  rintro _ w1 ⟨rfl, hb⟩
  have HB := hide (bthen (unhide HB) hb)
  have HM := hide ((unhide HM).below hb)
  clear hb
  go_wp2_with fail
  refine (unhide HK _).mono ?_
  rintro _ w2 ⟨rfl, hb⟩
  have HB := hide (bthen (unhide HB) hb)
  have HM := hide ((unhide HM).below hb)
  clear hb
  go_wp2_with fail
  refine (unhide HN _).mono ?_
  rintro _ w3 ⟨rfl, hb⟩
  have HB := hide (bthen (unhide HB) hb)
  have HM := hide ((unhide HM).below hb)
  clear hb
  go_wp2_with fail
  refine (unhide HF _).mono ?_
  rintro _ w4 ⟨rfl, hb⟩
  have HB := hide (bthen (unhide HB) hb)
  have HM := hide ((unhide HM).below hb)
  clear hb
  go_wp2_with fail
  refine (unhide HS _ (unhide HM)).mono ?_
  rintro _ w5 ⟨rfl, hb⟩
  have HB := hide (bthen (unhide HB) hb)
  have HM := hide ((unhide HM).below hb)
  clear hb
  go_wp2_with fail
  go_ret
  exact ⟨rfl, unhide HB⟩
end Go.Proofs.YtahdcbjfabccpaaDoor
