/- WRefI, CsT, InE. -/
import Derived.Test.YtpbgpdmffejdgaaGreatDoorS01
import Derived.Test.YtpbgpdmffejdgaaGreatDoorS05
import Derived.Test.YtpbgpdmffejdgaaGreatDoorS21
import Derived.Shelf.Spec.TrailingZeros
namespace Go.Proofs.YtpbgpdmffejdgaaGreatDoor.W
open Go.RowKit

/-- The division's variables at a round's head. -/
structure DivSt (N : Nat) (w wr : World) (b Qs Rs : Value) (y Q R : Nat) : Prop where
  cb : wr.cell? ⟨N + 1, 0, none⟩ = some b
  c2 : wr.cell? ⟨N + 1 + 1, 0, none⟩ = some (.slice none 0 0)
  c3 : wr.cell? ⟨N + 1 + 1 + 1, 0, none⟩ = some (.slice none 0 0)
  cq : wr.cell? ⟨N + 1 + 1 + 1 + 1, 0, none⟩ = some Qs
  cr : wr.cell? ⟨N + 1 + 1 + 1 + 1 + 1, 0, none⟩ = some Rs
  f2 : wr.frozen? ⟨N + 1 + 1, 0, none⟩ = false
  f3 : wr.frozen? ⟨N + 1 + 1 + 1, 0, none⟩ = false
  fq : wr.frozen? ⟨N + 1 + 1 + 1 + 1, 0, none⟩ = false
  fr : wr.frozen? ⟨N + 1 + 1 + 1 + 1 + 1, 0, none⟩ = false
  sz : N + 1 + 1 + 1 + 1 + 1 < wr.heap.size
  nb : IsNat wr b y
  nq : IsNat wr Qs Q
  nr : IsNat wr Rs R
  bel : Below N w wr

theorem DivSt.below {N : Nat} {w wr w' : World} {b Qs Rs : Value} {y Q R : Nat} (h : DivSt N w wr b Qs Rs y Q R) (hb : Below wr.heap.size wr w') : DivSt N w w' b Qs Rs y Q R := by
  have hz := h.sz
  have k : ∀ j, j < wr.heap.size → w'.cell? ⟨j, 0, none⟩ = wr.cell? ⟨j, 0, none⟩ := fun j hj => hb.cell (p := ⟨j, 0, none⟩) hj
  have l : ∀ j, j < wr.heap.size → w'.frozen? ⟨j, 0, none⟩ = wr.frozen? ⟨j, 0, none⟩ := fun j hj => hb.frozen (p := ⟨j, 0, none⟩) hj
  exact { cb := by rw [k _ (by omega)]; exact h.cb, c2 := by rw [k _ (by omega)]; exact h.c2, c3 := by rw [k _ (by omega)]; exact h.c3, cq := by rw [k _ (by omega)]; exact h.cq, cr := by rw [k _ (by omega)]; exact h.cr,
          f2 := by rw [l _ (by omega)]; exact h.f2, f3 := by rw [l _ (by omega)]; exact h.f3, fq := by rw [l _ (by omega)]; exact h.fq, fr := by rw [l _ (by omega)]; exact h.fr,
          sz := Nat.lt_of_lt_of_le hz hb.size, nb := h.nb.below hb, nq := h.nq.below hb, nr := h.nr.below hb, bel := h.bel.trans (hb.mono (by omega)) }

theorem frozen_set (w : World) (p q : Addr) (v : Value) : (w.setCell p v).frozen? q = w.frozen? q := by simp [go_sem]
theorem cmpN_ge {v u : Nat} (h : u ≤ v) : 0 ≤ cmpN v u := by
  unfold cmpN
  rw [if_neg (by omega)]
  split <;> omega
theorem cmpN_lt {v u : Nat} (h : ¬ u ≤ v) : ¬ 0 ≤ cmpN v u := by
  unfold cmpN
  rw [if_pos (by omega)]
  omega

theorem refOf_1 (w : World) : Calls Tryz.prog 21 #[.int .u64 1] w fun e w' => ∃ s', e = .returned (.agg #[s']) ∧ IsNat w' s' 1 ∧ Below w.heap.size w w' := refOf_any 1 w (by omega) (by omega)
theorem pow_pw {k i : Nat} (h : k < 32 * i) : 1 * 2 ^ k < pw i := by
  rw [pw_two, Nat.one_mul]
  exact Nat.pow_lt_pow_right (by omega) h

end Go.Proofs.YtpbgpdmffejdgaaGreatDoor.W
namespace Go.Proofs.YtpbgpdmffejdgaaGreatDoor
open Go.RowKit
open Go.Proofs.YtpbgpdmffejdgaaGreatDoor.W

/-- How the shelf's numbers of functions, types and variables are named here. -/
def ren : Go.Shelf.Ren := ⟨fun _ => 223, fun t => if t = 22 then 28 else if t = 25 then 35 else if t = 54 then 218 else t, fun _ => 4⟩
theorem lays : Go.Proofs.Lays7.n29 Tryz.prog ren where
  mixed := by kernel_rfl
  f29 := by kernel_rfl
  t0 := by kernel_rfl
  a0 := fun _ => by kernel_rfl
  z0 := fun _ => by kernel_rfl
  v0 := fun _ => by kernel_rfl
  i0 := by kernel_rfl
  t3 := by kernel_rfl
  a3 := fun _ => by kernel_rfl
  z3 := fun _ => by kernel_rfl
  v3 := fun _ => by kernel_rfl
  i3 := by kernel_rfl
  t4 := by kernel_rfl
  a4 := fun _ => by kernel_rfl
  z4 := fun _ => by kernel_rfl
  v4 := fun _ => by kernel_rfl
  i4 := by kernel_rfl
  t5 := by kernel_rfl
  a5 := fun _ => by kernel_rfl
  z5 := fun _ => by kernel_rfl
  v5 := fun _ => by kernel_rfl
  i5 := by kernel_rfl
  t22 := by kernel_rfl
  a22 := fun _ => by kernel_rfl
  z22 := fun _ => by kernel_rfl
  v22 := fun _ => by kernel_rfl
  i22 := by kernel_rfl
  t25 := by kernel_rfl
  a25 := fun _ => by kernel_rfl
  z25 := fun _ => by kernel_rfl
  v25 := fun _ => by kernel_rfl
  i25 := by kernel_rfl
  t54 := by kernel_rfl
  a54 := fun _ => by kernel_rfl
  z54 := fun _ => by kernel_rfl
  g1 := by kernel_rfl
theorem tz_any (x : Nat) (h1 : x < 18446744073709551616) (W : World) (m : Mk W) :
    Calls Tryz.prog 223 #[.int .u64 x] W fun r W' => r = .returned (.int .i64 (Lib.ctz 64 x : Nat)) ∧ W' = W :=
  Go.Proofs.Any7.bits_TrailingZeros64 lays x h1 W (fun _ => m.tab)
end Go.Proofs.YtpbgpdmffejdgaaGreatDoor
namespace Go.Proofs.YtpbgpdmffejdgaaGreatDoor
open Go.RowKit

set_option maxHeartbeats 4000000 in
set_option maxRecDepth 100000 in
theorem knI_l {w e f : Int} (HF : Ct 23 #[.int .i64 w] (.tuple #[.int .i64 e, .int .i64 f])) : Ct 221 #[.int .i64 w] (.bool (e != 0)) := by
  refine hide (fun W => ?_)
  have HB := hide (Below.refl W.heap.size W)
  go_enter Tryz.func221, Tryz.ntmps221
  go_wp2_with fail
  refine (unhide HF _).mono ?_
  rintro _ w1 ⟨rfl, hb⟩
  have HB := hide (bthen (unhide HB) hb)
  clear hb
  go_wp2_with fail
  go_ret
  exact ⟨rfl, unhide HB⟩
set_option maxHeartbeats 4000000 in
set_option maxRecDepth 100000 in
theorem clz_m {w a c l d r : Int} (HK : Ct 221 #[.int .i64 w] (.bool true)) (HC : Ct 17 #[.int .i64 w, .int .u64 a] (.int .u64 c)) (HL : Ct 222 #[.int .u64 c] (.int .i64 l)) (hd : IntKind.i64.wrap (w - l) = d) (hr : IntKind.u64.wrap d = r) : Ct 143 #[.int .i64 w, .int .u64 a] (.int .u64 r) := by
  refine hide (fun W => ?_)
  have HB := hide (Below.refl W.heap.size W)
  go_enter Tryz.func143, Tryz.ntmps143
  go_wp2_with fail
  refine (unhide HK _).mono ?_
  rintro _ w1 ⟨rfl, hb⟩
  have HB := hide (bthen (unhide HB) hb)
  clear hb
  go_wp2_with fail
  refine (unhide HC _).mono ?_
  rintro _ w2 ⟨rfl, hb⟩
  have HB := hide (bthen (unhide HB) hb)
  clear hb
  go_wp2_with fail
  refine (unhide HL _).mono ?_
  rintro _ w3 ⟨rfl, hb⟩
  have HB := hide (bthen (unhide HB) hb)
  clear hb
  go_wp2_with fail
  go_ret
  exact ⟨rfl, unhide HB⟩
set_option maxHeartbeats 4000000 in
set_option maxRecDepth 100000 in
theorem ctz_le {w a t r : Int} (HK : Ct 221 #[.int .i64 w] (.bool true)) (HT : Cm 223 #[.int .u64 a] (.int .i64 t)) (g : w ≤ t) (hr : IntKind.u64.wrap w = r) : Cm 144 #[.int .i64 w, .int .u64 a] (.int .u64 r) := by
  refine hide (fun W hM => ?_)
  have HM := hide hM
  clear hM
  have HB := hide (Below.refl W.heap.size W)
  go_enter Tryz.func144, Tryz.ntmps144
  go_wp2_with fail
  refine (unhide HK _).mono ?_
  rintro _ w1 ⟨rfl, hb⟩
  have HB := hide (bthen (unhide HB) hb)
  have HM := hide ((unhide HM).below hb)
  clear hb
  go_wp2_with fail
  refine (unhide HT _ (unhide HM)).mono ?_
  rintro _ w2 ⟨rfl, hb⟩
  have HB := hide (bthen (unhide HB) hb)
  clear hb
  go_wp2_with fail
  go_ret
  exact ⟨by first | rfl | simp, unhide HB⟩
set_option maxHeartbeats 4000000 in
set_option maxRecDepth 100000 in
theorem ctz_gt {w a t r : Int} (HK : Ct 221 #[.int .i64 w] (.bool true)) (HT : Cm 223 #[.int .u64 a] (.int .i64 t)) (g : t < w) (hr : IntKind.u64.wrap t = r) : Cm 144 #[.int .i64 w, .int .u64 a] (.int .u64 r) := by
  refine hide (fun W hM => ?_)
  have HM := hide hM
  clear hM
  have HB := hide (Below.refl W.heap.size W)
  go_enter Tryz.func144, Tryz.ntmps144
  go_wp2_with fail
  refine (unhide HK _).mono ?_
  rintro _ w1 ⟨rfl, hb⟩
  have HB := hide (bthen (unhide HB) hb)
  have HM := hide ((unhide HM).below hb)
  clear hb
  go_wp2_with fail
  refine (unhide HT _ (unhide HM)).mono ?_
  rintro _ w2 ⟨rfl, hb⟩
  have HB := hide (bthen (unhide HB) hb)
  clear hb
  go_wp2_with fail
  go_ret
  exact ⟨by first | rfl | simp, unhide HB⟩
set_option maxHeartbeats 4000000 in
set_option maxRecDepth 100000 in
theorem piece_8  : Ct 171 #[.int .i64 8] (.bool true) := by
  refine hide (fun W => ?_)
  have HB := hide (Below.refl W.heap.size W)
  go_enter Tryz.func171, Tryz.ntmps171
  go_wp2_with fail
  go_ret
  exact ⟨rfl, unhide HB⟩
set_option maxHeartbeats 4000000 in
set_option maxRecDepth 100000 in
theorem piece_16  : Ct 171 #[.int .i64 16] (.bool true) := by
  refine hide (fun W => ?_)
  have HB := hide (Below.refl W.heap.size W)
  go_enter Tryz.func171, Tryz.ntmps171
  go_wp2_with fail
  go_ret
  exact ⟨rfl, unhide HB⟩
set_option maxHeartbeats 4000000 in
set_option maxRecDepth 100000 in
theorem piece_32  : Ct 171 #[.int .i64 32] (.bool true) := by
  refine hide (fun W => ?_)
  have HB := hide (Below.refl W.heap.size W)
  go_enter Tryz.func171, Tryz.ntmps171
  go_wp2_with fail
  go_ret
  exact ⟨rfl, unhide HB⟩
set_option maxHeartbeats 4000000 in
set_option maxRecDepth 100000 in
theorem piece_64  : Ct 171 #[.int .i64 64] (.bool true) := by
  refine hide (fun W => ?_)
  have HB := hide (Below.refl W.heap.size W)
  go_enter Tryz.func171, Tryz.ntmps171
  go_wp2_with fail
  go_ret
  exact ⟨rfl, unhide HB⟩
set_option maxHeartbeats 4000000 in
set_option maxRecDepth 100000 in
theorem ext_t {w f a d u h r v : Int} (HP : Ct 171 #[.int .i64 f] (.bool true)) (g : f ≤ w) (hd : IntKind.i64.wrap (64 - f) = d) (hu : IntKind.u64.wrap d = u) (HL : Ct 138 #[.int .i64 64, .int .u64 a, .int .u64 u] (.int .u64 h)) (HR : Ct 139 #[.int .i64 64, .int .u64 h, .int .u64 u] (.int .u64 r)) (HC : Ct 17 #[.int .i64 w, .int .u64 r] (.int .u64 v)) : Ct 97 #[.int .i64 w, .int .i64 f, .int .u64 a, .bool true] (.int .u64 v) := by
  refine hide (fun W => ?_)
  have HB := hide (Below.refl W.heap.size W)
  go_enter Tryz.func97, Tryz.ntmps97
  go_wp2_with fail
  refine (unhide HP _).mono ?_
  rintro _ w1 ⟨rfl, hb⟩
  have HB := hide (bthen (unhide HB) hb)
  clear hb
  go_wp2_with fail
  refine (unhide HL _).mono ?_
  rintro _ w2 ⟨rfl, hb⟩
  have HB := hide (bthen (unhide HB) hb)
  clear hb
  go_wp2_with fail
  refine (unhide HR _).mono ?_
  rintro _ w3 ⟨rfl, hb⟩
  have HB := hide (bthen (unhide HB) hb)
  clear hb
  go_wp2_with fail
  refine (unhide HC _).mono ?_
  rintro _ w4 ⟨rfl, hb⟩
  have HB := hide (bthen (unhide HB) hb)
  clear hb
  go_wp2_with fail
  go_ret
  exact ⟨rfl, unhide HB⟩
set_option maxHeartbeats 4000000 in
set_option maxRecDepth 100000 in
theorem ext_f {w f a d u h r v : Int} (HP : Ct 171 #[.int .i64 f] (.bool true)) (g : f ≤ w) (hd : IntKind.i64.wrap (64 - f) = d) (hu : IntKind.u64.wrap d = u) (HL : Ct 138 #[.int .i64 64, .int .u64 a, .int .u64 u] (.int .u64 h)) (HR : Ct 140 #[.int .i64 64, .int .u64 h, .int .u64 u] (.int .u64 r)) (HC : Ct 17 #[.int .i64 w, .int .u64 r] (.int .u64 v)) : Ct 97 #[.int .i64 w, .int .i64 f, .int .u64 a, .bool false] (.int .u64 v) := by
  refine hide (fun W => ?_)
  have HB := hide (Below.refl W.heap.size W)
  go_enter Tryz.func97, Tryz.ntmps97
  go_wp2_with fail
  refine (unhide HP _).mono ?_
  rintro _ w1 ⟨rfl, hb⟩
  have HB := hide (bthen (unhide HB) hb)
  clear hb
  go_wp2_with fail
  refine (unhide HL _).mono ?_
  rintro _ w2 ⟨rfl, hb⟩
  have HB := hide (bthen (unhide HB) hb)
  clear hb
  go_wp2_with fail
  refine (unhide HR _).mono ?_
  rintro _ w3 ⟨rfl, hb⟩
  have HB := hide (bthen (unhide HB) hb)
  clear hb
  go_wp2_with fail
  refine (unhide HC _).mono ?_
  rintro _ w4 ⟨rfl, hb⟩
  have HB := hide (bthen (unhide HB) hb)
  clear hb
  go_wp2_with fail
  go_ret
  exact ⟨rfl, unhide HB⟩
end Go.Proofs.YtpbgpdmffejdgaaGreatDoor
