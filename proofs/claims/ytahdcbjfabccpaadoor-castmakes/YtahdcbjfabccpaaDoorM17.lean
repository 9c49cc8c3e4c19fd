/- CsT. -/
import Derived.Test.YtahdcbjfabccpaaDoorM04
import Derived.Test.YtahdcbjfabccpaaDoorM12
import Derived.Test.YtahdcbjfabccpaaDoorM13
import Derived.Shelf.Spec.TrailingZeros
namespace Go.Proofs.YtahdcbjfabccpaaDoor
open Go.RowKit
open Go.Proofs.YtahdcbjfabccpaaDoor.W

/-- The table of de Bruijn's numbers, in its variable. -/
def Mk (W : World) : Prop := ∀ j, j < 64 → W.cell? ⟨0, j, none⟩ = some (.int .u8 (Lib.deBruijn64tab.getD j 0 : Nat))
theorem Mk.below {w w' : World} (h : Mk w) (hb : Below w.heap.size w w') : Mk w' := fun j hj => keep1 hb (lt_of_cell (h j hj)) (h j hj)
/-- What a function answers where the table is so. -/
def Cm (f : Nat) (args : Array Value) (res : Value) : Prop := Hid (∀ W, Mk W → Calls Tryd.prog f args W fun r W' => r = .returned res ∧ Below W.heap.size W W')

/-- How the shelf's numbers of functions, types and variables are named here. -/
def ren : Go.Shelf.Ren := ⟨fun _ => 43, fun t => if t = 25 then 33 else if t = 54 then 79 else t, fun _ => 0⟩
theorem lays : Go.Proofs.Lays7.n29 Tryd.prog ren where
  mixed := by kernel_rfl
  f29 := by kernel_rfl
  t0 := by kernel_rfl
  a0 := fun _ => by kernel_rfl
  z0 := fun _ => by kernel_rfl
  v0 := fun _ => by kernel_rfl
  i0 := by kernel_rfl
  t3 := by kernel_rfl
  a3 := fun _ => by kernel_rfl
  z3 := fun _ => by kernel_rfl
  v3 := fun _ => by kernel_rfl
  i3 := by kernel_rfl
  t4 := by kernel_rfl
  a4 := fun _ => by kernel_rfl
  z4 := fun _ => by kernel_rfl
  v4 := fun _ => by kernel_rfl
  i4 := by kernel_rfl
  t5 := by kernel_rfl
  a5 := fun _ => by kernel_rfl
  z5 := fun _ => by kernel_rfl
  v5 := fun _ => by kernel_rfl
  i5 := by kernel_rfl
  t22 := by kernel_rfl
  a22 := fun _ => by kernel_rfl
  z22 := fun _ => by kernel_rfl
  v22 := fun _ => by kernel_rfl
  i22 := by kernel_rfl
  t25 := by kernel_rfl
  a25 := fun _ => by kernel_rfl
  z25 := fun _ => by kernel_rfl
  v25 := fun _ => by kernel_rfl
  i25 := by kernel_rfl
  t54 := by kernel_rfl
  a54 := fun _ => by kernel_rfl
  z54 := fun _ => by kernel_rfl
  g1 := by kernel_rfl
theorem tz_any (x : Nat) (h1 : x < 18446744073709551616) (W : World) (m : Mk W) :
    Calls Tryd.prog 43 #[.int .u64 x] W fun r W' => r = .returned (.int .i64 (Lib.ctz 64 x : Nat)) ∧ W' = W :=
  Go.Proofs.Any7.bits_TrailingZeros64 lays x h1 W (fun _ => m)
theorem tz_zero (W : World) (m : Mk W) : Calls Tryd.prog 43 #[.int .u64 0] W fun r W' => r = .returned (.int .i64 64) ∧ W' = W := tz_any 0 (by omega) W m

set_option maxHeartbeats 4000000 in
set_option maxRecDepth 100000 in
theorem span_z (W : World) (HM : Hid (Mk W)) (HT : Hid (∀ W, Mk W → Calls Tryd.prog 43 #[.int .u64 0] W fun r W' => r = .returned (.int .i64 64) ∧ Below W.heap.size W W')) (HL : Ct 42 #[.int .u64 0] (.int .i64 0)) :
    Calls Tryd.prog 21 #[.int .u64 0] W fun r W' => r = .returned (.int .i64 0) ∧ Below W.heap.size W W' := by
  have HB := hide (Below.refl W.heap.size W)
  go_enter Tryd.func21, Tryd.ntmps21
  go_wp2_with fail
  refine (unhide HT _ (unhide HM)).mono ?_
  rintro _ w1 ⟨rfl, hb⟩
  have HB := hide (bthen (unhide HB) hb)
  have HM := hide ((unhide HM).below hb)
  clear hb
  go_wp2_with fail
  refine (unhide HL _).mono ?_
  rintro _ w2 ⟨rfl, hb⟩
  have HB := hide (bthen (unhide HB) hb)
  have HM := hide ((unhide HM).below hb)
  clear hb
  go_wp2_with fail
  go_ret
  exact ⟨rfl, unhide HB⟩
set_option maxHeartbeats 4000000 in
set_option maxRecDepth 100000 in
theorem span_n {x t y L : Int} (W : World) (HM : Hid (Mk W)) (t0 : 0 ≤ t) (t1 : t < 64) (HT : Cm 43 #[.int .u64 x] (.int .i64 t)) (h : x / 2 ^ t.toNat = y) (HL : Ct 42 #[.int .u64 y] (.int .i64 L)) :
    Calls Tryd.prog 21 #[.int .u64 x] W fun r W' => r = .returned (.int .i64 L) ∧ Below W.heap.size W W' := by
  have HB := hide (Below.refl W.heap.size W)
  go_enter Tryd.func21, Tryd.ntmps21
  go_wp2_with fail
  refine (unhide HT _ (unhide HM)).mono ?_
  rintro _ w1 ⟨rfl, hb⟩
  have HB := hide (bthen (unhide HB) hb)
  have HM := hide ((unhide HM).below hb)
  clear hb
  go_wp2_with fail
  refine (unhide HL _).mono ?_
  rintro _ w2 ⟨rfl, hb⟩
  have HB := hide (bthen (unhide HB) hb)
  have HM := hide ((unhide HM).below hb)
  clear hb
  go_wp2_with fail
  go_ret
  exact ⟨rfl, unhide HB⟩
set_option maxHeartbeats 4000000 in
set_option maxRecDepth 100000 in
theorem cknown_l {w e f : Int} (W : World) (HF : Ct 20 #[.int .i64 w] (.tuple #[.int .i64 e, .int .i64 f])) :
    Calls Tryd.prog 18 #[.int .i64 w] W fun r W' => r = .returned (.bool (e != 0)) ∧ Below W.heap.size W W' := by
  have HB := hide (Below.refl W.heap.size W)
  go_enter Tryd.func18, Tryd.ntmps18
  go_wp2_with fail
  refine (unhide HF _).mono ?_
  rintro _ w1 ⟨rfl, hb⟩
  have HB := hide (bthen (unhide HB) hb)
  clear hb
  go_wp2_with fail
  go_ret
  exact ⟨rfl, unhide HB⟩
set_option maxHeartbeats 4000000 in
set_option maxRecDepth 100000 in
theorem exact_no1 {w k x : Int} {s : Bool} (W : World) (HW : Ct 18 #[.int .i64 w] (.bool false)) :
    Calls Tryd.prog 8 #[.int .i64 w, .int .i64 k, .int .u64 x, .bool s] W fun r W' => r = .returned (.bool false) ∧ Below W.heap.size W W' := by
  have HB := hide (Below.refl W.heap.size W)
  go_enter Tryd.func8, Tryd.ntmps8
  go_wp2_with fail
  refine (unhide HW _).mono ?_
  rintro _ w1 ⟨rfl, hb⟩
  have HB := hide (bthen (unhide HB) hb)
  clear hb
  go_wp2_with fail
  go_ret
  exact ⟨rfl, unhide HB⟩
set_option maxHeartbeats 4000000 in
set_option maxRecDepth 100000 in
theorem exact_no2 {w k x : Int} {s : Bool} (W : World) (HW : Ct 18 #[.int .i64 w] (.bool true)) (HK : Ct 18 #[.int .i64 k] (.bool false)) :
    Calls Tryd.prog 8 #[.int .i64 w, .int .i64 k, .int .u64 x, .bool s] W fun r W' => r = .returned (.bool false) ∧ Below W.heap.size W W' := by
  have HB := hide (Below.refl W.heap.size W)
  go_enter Tryd.func8, Tryd.ntmps8
  go_wp2_with fail
  refine (unhide HW _).mono ?_
  rintro _ w1 ⟨rfl, hb⟩
  have HB := hide (bthen (unhide HB) hb)
  clear hb
  go_wp2_with fail
  refine (unhide HK _).mono ?_
  rintro _ w2 ⟨rfl, hb⟩
  have HB := hide (bthen (unhide HB) hb)
  clear hb
  go_wp2_with fail
  go_ret
  exact ⟨rfl, unhide HB⟩
set_option maxHeartbeats 4000000 in
set_option maxRecDepth 100000 in
theorem exact_yes {w k x a e f g L : Int} {s m : Bool} (W : World) (HM : Hid (Mk W)) (HW : Ct 18 #[.int .i64 w] (.bool true)) (HK : Ct 18 #[.int .i64 k] (.bool true)) (HN : Ct 19 #[.int .i64 k, .int .u64 x, .bool s] (.tuple #[.bool m, .int .u64 a])) (HF : Ct 20 #[.int .i64 w] (.tuple #[.int .i64 e, .int .i64 f])) (h : IntKind.i64.wrap (f + 1) = g) (HS : Cm 21 #[.int .u64 a] (.int .i64 L)) :
    Calls Tryd.prog 8 #[.int .i64 w, .int .i64 k, .int .u64 x, .bool s] W fun r W' => r = .returned (.bool (decide (L ≤ g))) ∧ Below W.heap.size W W' := by
  have HB := hide (Below.refl W.heap.size W)
  go_enter Tryd.func8, Tryd.ntmps8
  go_wp2_with fail
  refine (unhide HW _).mono ?_
  rintro _ w1 ⟨rfl, hb⟩
  have HB := hide (bthen (unhide HB) hb)
  have HM := hide ((unhide HM).below hb)
  clear hb
  go_wp2_with fail
  refine (unhide HK _).mono ?_
  rintro _ w2 ⟨rfl, hb⟩
  have HB := hide (bthen (unhide HB) hb)
  have HM := hide ((unhide HM).below hb)
  clear hb
  go_wp2_with fail
  refine (unhide HN _).mono ?_
  rintro _ w3 ⟨rfl, hb⟩
  have HB := hide (bthen (unhide HB) hb)
  have HM := hide ((unhide HM).below hb)
  clear hb
  go_wp2_with fail
  refine (unhide HF _).mono ?_
  rintro _ w4 ⟨rfl, hb⟩
  have HB := hide (bthen (unhide HB) hb)
  have HM := hide ((unhide HM).below hb)
  clear hb
  go_wp2_with fail
  refine (unhide HS _ (unhide HM)).mono ?_
  rintro _ w5 ⟨rfl, hb⟩
  have HB := hide (bthen (unhide HB) hb)
  have HM := hide ((unhide HM).below hb)
  clear hb
  go_wp2_with fail
  go_ret
  exact ⟨rfl, unhide HB⟩
end Go.Proofs.YtahdcbjfabccpaaDoor
