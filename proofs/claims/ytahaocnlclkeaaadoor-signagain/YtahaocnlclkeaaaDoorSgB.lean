/- Walks of package sign's Is, Abs, Neg, Copysign, and of the reference's With. -/
import Derived.Test.YtahaocnlclkeaaaDoorSgA
namespace Go.Proofs.YtahaocnlclkeaaaDoor
open Go.RowKit

/-- What a function answers where the variable holds both widths' signs. -/
def Cm (f : Nat) (args : Array Value) (res : Value) : Prop := Hid (∀ W, Mk W → Calls Tryd.prog f args W fun r W' => r = .returned res ∧ Below W.heap.size W W')
set_option maxHeartbeats 4000000 in
set_option maxRecDepth 100000 in
theorem is_w {w x B R : Int} {n : Bool} (W : World) (HM : Hid (Mk W)) (HT : Cm 15 #[.int .i64 w] (.int .u64 B)) (h1 : bits .and .u64 x B = R) (h2 : (R != 0) = n) :
    Calls Tryd.prog 11 #[.int .i64 w, .int .u64 x] W fun r W' => r = .returned (.bool n) ∧ Below W.heap.size W W' := by
  have HB := hide (Below.refl W.heap.size W)
  go_enter Tryd.func11, Tryd.ntmps11
  go_wp2_with fail
  refine (unhide HT _ (unhide HM)).mono ?_
  rintro _ w1 ⟨rfl, hb⟩
  have HB := hide (bthen (unhide HB) hb)
  have HM := hide ((unhide HM).below hb)
  clear hb
  go_wp2_with fail
  go_ret
  exact ⟨rfl, unhide HB⟩
set_option maxHeartbeats 4000000 in
set_option maxRecDepth 100000 in
theorem abs_w {w x c B R : Int} (W : World) (HM : Hid (Mk W)) (HC : Ct 14 #[.int .i64 w, .int .u64 x] (.int .u64 c)) (HT : Cm 15 #[.int .i64 w] (.int .u64 B)) (h1 : bits .andNot .u64 c B = R) :
    Calls Tryd.prog 8 #[.int .i64 w, .int .u64 x] W fun r W' => r = .returned (.int .u64 R) ∧ Below W.heap.size W W' := by
  have HB := hide (Below.refl W.heap.size W)
  go_enter Tryd.func8, Tryd.ntmps8
  go_wp2_with fail
  refine (unhide HC _).mono ?_
  rintro _ w1 ⟨rfl, hb⟩
  have HB := hide (bthen (unhide HB) hb)
  have HM := hide ((unhide HM).below hb)
  clear hb
  go_wp2_with fail
  refine (unhide HT _ (unhide HM)).mono ?_
  rintro _ w2 ⟨rfl, hb⟩
  have HB := hide (bthen (unhide HB) hb)
  have HM := hide ((unhide HM).below hb)
  clear hb
  go_wp2_with fail
  go_ret
  exact ⟨rfl, unhide HB⟩
set_option maxHeartbeats 4000000 in
set_option maxRecDepth 100000 in
theorem neg_w {w x c B R : Int} (W : World) (HM : Hid (Mk W)) (HC : Ct 14 #[.int .i64 w, .int .u64 x] (.int .u64 c)) (HT : Cm 15 #[.int .i64 w] (.int .u64 B)) (h1 : bits .xor .u64 c B = R) :
    Calls Tryd.prog 9 #[.int .i64 w, .int .u64 x] W fun r W' => r = .returned (.int .u64 R) ∧ Below W.heap.size W W' := by
  have HB := hide (Below.refl W.heap.size W)
  go_enter Tryd.func9, Tryd.ntmps9
  go_wp2_with fail
  refine (unhide HC _).mono ?_
  rintro _ w1 ⟨rfl, hb⟩
  have HB := hide (bthen (unhide HB) hb)
  have HM := hide ((unhide HM).below hb)
  clear hb
  go_wp2_with fail
  refine (unhide HT _ (unhide HM)).mono ?_
  rintro _ w2 ⟨rfl, hb⟩
  have HB := hide (bthen (unhide HB) hb)
  have HM := hide ((unhide HM).below hb)
  clear hb
  go_wp2_with fail
  go_ret
  exact ⟨rfl, unhide HB⟩
set_option maxHeartbeats 4000000 in
set_option maxRecDepth 100000 in
theorem copy_w {w x y c B d R : Int} (W : World) (HM : Hid (Mk W)) (HA : Cm 8 #[.int .i64 w, .int .u64 x] (.int .u64 c)) (HT : Cm 15 #[.int .i64 w] (.int .u64 B)) (h1 : bits .and .u64 y B = d) (h2 : bits .or .u64 c d = R) :
    Calls Tryd.prog 10 #[.int .i64 w, .int .u64 x, .int .u64 y] W fun r W' => r = .returned (.int .u64 R) ∧ Below W.heap.size W W' := by
  have HB := hide (Below.refl W.heap.size W)
  go_enter Tryd.func10, Tryd.ntmps10
  go_wp2_with fail
  refine (unhide HA _ (unhide HM)).mono ?_
  rintro _ w1 ⟨rfl, hb⟩
  have HB := hide (bthen (unhide HB) hb)
  have HM := hide ((unhide HM).below hb)
  clear hb
  go_wp2_with fail
  refine (unhide HT _ (unhide HM)).mono ?_
  rintro _ w2 ⟨rfl, hb⟩
  have HB := hide (bthen (unhide HB) hb)
  have HM := hide ((unhide HM).below hb)
  clear hb
  go_wp2_with fail
  go_ret
  exact ⟨rfl, unhide HB⟩
set_option maxHeartbeats 4000000 in
set_option maxRecDepth 100000 in
theorem with_tt {w x c T k' d R : Int} (W : World) (HM : Hid (Mk W)) (k : IntKind.i64.wrap (w - 1) = k') (HC : Ct 16 #[.int .i64 w, .int .u64 x] (.int .u64 c)) (HN : Ct 12 #[.int .i64 w, .int .u64 x] (.bool true)) (HD : Ct 17 #[.int .i64 k'] (.int .u64 T)) (h1 : IntKind.u64.wrap (c - T) = d) (h2 : IntKind.u64.wrap (d + T) = R)  :
    Calls Tryd.prog 13 #[.int .i64 w, .int .u64 x, .bool true] W fun r W' => r = .returned (.int .u64 R) ∧ Below W.heap.size W W' := by
  have HB := hide (Below.refl W.heap.size W)
  go_enter Tryd.func13, Tryd.ntmps13
  go_wp2_with fail
  refine (unhide HC _).mono ?_
  rintro _ w1 ⟨rfl, hb⟩
  have HB := hide (bthen (unhide HB) hb)
  have HM := hide ((unhide HM).below hb)
  clear hb
  go_wp2_with fail
  refine (unhide HN _).mono ?_
  rintro _ w2 ⟨rfl, hb⟩
  have HB := hide (bthen (unhide HB) hb)
  have HM := hide ((unhide HM).below hb)
  clear hb
  go_wp2_with fail
  refine (unhide HD _).mono ?_
  rintro _ w3 ⟨rfl, hb⟩
  have HB := hide (bthen (unhide HB) hb)
  have HM := hide ((unhide HM).below hb)
  clear hb
  go_wp2_with fail
  refine (unhide HD _).mono ?_
  rintro _ w4 ⟨rfl, hb⟩
  have HB := hide (bthen (unhide HB) hb)
  have HM := hide ((unhide HM).below hb)
  clear hb
  go_wp2_with fail
  go_ret
  exact ⟨rfl, unhide HB⟩
set_option maxHeartbeats 4000000 in
set_option maxRecDepth 100000 in
theorem with_tf {w x c T k' d : Int} (W : World) (HM : Hid (Mk W)) (k : IntKind.i64.wrap (w - 1) = k') (HC : Ct 16 #[.int .i64 w, .int .u64 x] (.int .u64 c)) (HN : Ct 12 #[.int .i64 w, .int .u64 x] (.bool true)) (HD : Ct 17 #[.int .i64 k'] (.int .u64 T)) (h1 : IntKind.u64.wrap (c - T) = d)  :
    Calls Tryd.prog 13 #[.int .i64 w, .int .u64 x, .bool false] W fun r W' => r = .returned (.int .u64 d) ∧ Below W.heap.size W W' := by
  have HB := hide (Below.refl W.heap.size W)
  go_enter Tryd.func13, Tryd.ntmps13
  go_wp2_with fail
  refine (unhide HC _).mono ?_
  rintro _ w1 ⟨rfl, hb⟩
  have HB := hide (bthen (unhide HB) hb)
  have HM := hide ((unhide HM).below hb)
  clear hb
  go_wp2_with fail
  refine (unhide HN _).mono ?_
  rintro _ w2 ⟨rfl, hb⟩
  have HB := hide (bthen (unhide HB) hb)
  have HM := hide ((unhide HM).below hb)
  clear hb
  go_wp2_with fail
  refine (unhide HD _).mono ?_
  rintro _ w3 ⟨rfl, hb⟩
  have HB := hide (bthen (unhide HB) hb)
  have HM := hide ((unhide HM).below hb)
  clear hb
  go_wp2_with fail
  go_ret
  exact ⟨rfl, unhide HB⟩
set_option maxHeartbeats 4000000 in
set_option maxRecDepth 100000 in
theorem with_ft {w x c T k' R : Int} (W : World) (HM : Hid (Mk W)) (k : IntKind.i64.wrap (w - 1) = k') (HC : Ct 16 #[.int .i64 w, .int .u64 x] (.int .u64 c)) (HN : Ct 12 #[.int .i64 w, .int .u64 x] (.bool false)) (HD : Ct 17 #[.int .i64 k'] (.int .u64 T)) (h2 : IntKind.u64.wrap (c + T) = R)  :
    Calls Tryd.prog 13 #[.int .i64 w, .int .u64 x, .bool true] W fun r W' => r = .returned (.int .u64 R) ∧ Below W.heap.size W W' := by
  have HB := hide (Below.refl W.heap.size W)
  go_enter Tryd.func13, Tryd.ntmps13
  go_wp2_with fail
  refine (unhide HC _).mono ?_
  rintro _ w1 ⟨rfl, hb⟩
  have HB := hide (bthen (unhide HB) hb)
  have HM := hide ((unhide HM).below hb)
  clear hb
  go_wp2_with fail
  refine (unhide HN _).mono ?_
  rintro _ w2 ⟨rfl, hb⟩
  have HB := hide (bthen (unhide HB) hb)
  have HM := hide ((unhide HM).below hb)
  clear hb
  go_wp2_with fail
  refine (unhide HD _).mono ?_
  rintro _ w3 ⟨rfl, hb⟩
  have HB := hide (bthen (unhide HB) hb)
  have HM := hide ((unhide HM).below hb)
  clear hb
  go_wp2_with fail
  go_ret
  exact ⟨rfl, unhide HB⟩
set_option maxHeartbeats 4000000 in
set_option maxRecDepth 100000 in
theorem with_ff {w x c : Int} (W : World) (HM : Hid (Mk W)) (HC : Ct 16 #[.int .i64 w, .int .u64 x] (.int .u64 c)) (HN : Ct 12 #[.int .i64 w, .int .u64 x] (.bool false))  :
    Calls Tryd.prog 13 #[.int .i64 w, .int .u64 x, .bool false] W fun r W' => r = .returned (.int .u64 c) ∧ Below W.heap.size W W' := by
  have HB := hide (Below.refl W.heap.size W)
  go_enter Tryd.func13, Tryd.ntmps13
  go_wp2_with fail
  refine (unhide HC _).mono ?_
  rintro _ w1 ⟨rfl, hb⟩
  have HB := hide (bthen (unhide HB) hb)
  have HM := hide ((unhide HM).below hb)
  clear hb
  go_wp2_with fail
  refine (unhide HN _).mono ?_
  rintro _ w2 ⟨rfl, hb⟩
  have HB := hide (bthen (unhide HB) hb)
  have HM := hide ((unhide HM).below hb)
  clear hb
  go_wp2_with fail
  go_ret
  exact ⟨rfl, unhide HB⟩
end Go.Proofs.YtahaocnlclkeaaaDoor
