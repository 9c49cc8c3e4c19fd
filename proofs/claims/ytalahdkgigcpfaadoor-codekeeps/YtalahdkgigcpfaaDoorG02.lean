/- RnC. -/
import Derived.Test.YtalahdkgigcpfaaDoorG01
import Derived.LoopN
namespace Go.Proofs.YtalahdkgigcpfaaDoor
open Go.RowKit

set_option maxHeartbeats 4000000 in
set_option maxRecDepth 100000 in
theorem rnm_0 {op : Int} {i : Nat} {x : ByteArray} (g1 : ¬ 64512 ≤ op) (g2 : ¬ op < 69) (g3 : ¬ 191 < op) (e : IntKind.i64.wrap (op - 69) = (i : Int)) (hi : i < 11) (hx : relL[i]? = some x) (hs : x.size ≤ 100) : Ct 76 #[.int .i64 op] (.string (⟨#[105, 51, 50, 46]⟩ ++ x)) := by
  refine hide (fun W => ?_)
  have hz : ¬ 9223372036854775807 < 4 + x.size := by omega
  have hz0 : ¬ 9223372036854775807 < x.size := by omega
  have hz1 : ¬ 9223372036854775807 < 0 + x.size := by omega
  clear hs
  have HB := hide (Below.refl W.heap.size W)
  go_enter Tryd.func76, Tryd.ntmps76
  go_wp2_with fail
  refine wp_loop_rounds 1 ?_
  rw [rounds_succ]
  go_wp2_with fail
  refine (unhide grp_0 _).mono ?_
  rintro _ w1 ⟨b0, rfl, hT, hb⟩
  have HB := hide (bthen (unhide HB) hb)
  have hcell := hT i (.string x) (by rw [List.getElem?_map, hx]; rfl)
  clear hb hT
  have hl : relL.length = 11 := rfl
  rw [hl]
  clear hl
  go_wp2_with fail
  go_ret
  exact ⟨by first | rfl | simp, unhide HB⟩
set_option maxHeartbeats 4000000 in
set_option maxRecDepth 100000 in
theorem rnm_1 {op z0 : Int} {i : Nat} {x : ByteArray} (g1 : ¬ 64512 ≤ op) (g2 : ¬ op < 69) (g3 : ¬ 191 < op) (e : IntKind.i64.wrap (op - 69) = z0) (h0 : ¬ z0 < 11) (e0 : IntKind.i64.wrap (z0 - 11) = (i : Int)) (hi : i < 11) (hx : relL[i]? = some x) (hs : x.size ≤ 100) : Ct 76 #[.int .i64 op] (.string (⟨#[105, 54, 52, 46]⟩ ++ x)) := by
  refine hide (fun W => ?_)
  have hz : ¬ 9223372036854775807 < 4 + x.size := by omega
  have hz0 : ¬ 9223372036854775807 < x.size := by omega
  have hz1 : ¬ 9223372036854775807 < 0 + x.size := by omega
  clear hs
  have HB := hide (Below.refl W.heap.size W)
  go_enter Tryd.func76, Tryd.ntmps76
  go_wp2_with fail
  refine wp_loop_rounds 2 ?_
  rw [rounds_succ]
  go_wp2_with fail
  refine (unhide grp_0 _).mono ?_
  rintro _ w1 ⟨b0, rfl, hT, hb⟩
  have HB := hide (bthen (unhide HB) hb)
  clear hb hT
  have hl : relL.length = 11 := rfl
  rw [hl]
  clear hl
  go_wp2_with fail
  rw [rounds_succ]
  go_wp2_with fail
  refine (unhide grp_1 _).mono ?_
  rintro _ w2 ⟨b1, rfl, hT, hb⟩
  have HB := hide (bthen (unhide HB) hb)
  have hcell := hT i (.string x) (by rw [List.getElem?_map, hx]; rfl)
  clear hb hT
  have hl : relL.length = 11 := rfl
  rw [hl]
  clear hl
  go_wp2_with fail
  go_ret
  exact ⟨by first | rfl | simp, unhide HB⟩
set_option maxHeartbeats 4000000 in
set_option maxRecDepth 100000 in
theorem rnm_2 {op z0 z1 : Int} {i : Nat} {x : ByteArray} (g1 : ¬ 64512 ≤ op) (g2 : ¬ op < 69) (g3 : ¬ 191 < op) (e : IntKind.i64.wrap (op - 69) = z0) (h0 : ¬ z0 < 11) (e0 : IntKind.i64.wrap (z0 - 11) = z1) (h1 : ¬ z1 < 11) (e1 : IntKind.i64.wrap (z1 - 11) = (i : Int)) (hi : i < 6) (hx : floL[i]? = some x) (hs : x.size ≤ 100) : Ct 76 #[.int .i64 op] (.string (⟨#[102, 51, 50, 46]⟩ ++ x)) := by
  refine hide (fun W => ?_)
  have hz : ¬ 9223372036854775807 < 4 + x.size := by omega
  have hz0 : ¬ 9223372036854775807 < x.size := by omega
  have hz1 : ¬ 9223372036854775807 < 0 + x.size := by omega
  clear hs
  have HB := hide (Below.refl W.heap.size W)
  go_enter Tryd.func76, Tryd.ntmps76
  go_wp2_with fail
  refine wp_loop_rounds 3 ?_
  rw [rounds_succ]
  go_wp2_with fail
  refine (unhide grp_0 _).mono ?_
  rintro _ w1 ⟨b0, rfl, hT, hb⟩
  have HB := hide (bthen (unhide HB) hb)
  clear hb hT
  have hl : relL.length = 11 := rfl
  rw [hl]
  clear hl
  go_wp2_with fail
  rw [rounds_succ]
  go_wp2_with fail
  refine (unhide grp_1 _).mono ?_
  rintro _ w2 ⟨b1, rfl, hT, hb⟩
  have HB := hide (bthen (unhide HB) hb)
  clear hb hT
  have hl : relL.length = 11 := rfl
  rw [hl]
  clear hl
  go_wp2_with fail
  rw [rounds_succ]
  go_wp2_with fail
  refine (unhide grp_2 _).mono ?_
  rintro _ w3 ⟨b2, rfl, hT, hb⟩
  have HB := hide (bthen (unhide HB) hb)
  have hcell := hT i (.string x) (by rw [List.getElem?_map, hx]; rfl)
  clear hb hT
  have hl : floL.length = 6 := rfl
  rw [hl]
  clear hl
  go_wp2_with fail
  go_ret
  exact ⟨by first | rfl | simp, unhide HB⟩
set_option maxHeartbeats 4000000 in
set_option maxRecDepth 100000 in
theorem rnm_3 {op z0 z1 z2 : Int} {i : Nat} {x : ByteArray} (g1 : ¬ 64512 ≤ op) (g2 : ¬ op < 69) (g3 : ¬ 191 < op) (e : IntKind.i64.wrap (op - 69) = z0) (h0 : ¬ z0 < 11) (e0 : IntKind.i64.wrap (z0 - 11) = z1) (h1 : ¬ z1 < 11) (e1 : IntKind.i64.wrap (z1 - 11) = z2) (h2 : ¬ z2 < 6) (e2 : IntKind.i64.wrap (z2 - 6) = (i : Int)) (hi : i < 6) (hx : floL[i]? = some x) (hs : x.size ≤ 100) : Ct 76 #[.int .i64 op] (.string (⟨#[102, 54, 52, 46]⟩ ++ x)) := by
  refine hide (fun W => ?_)
  have hz : ¬ 9223372036854775807 < 4 + x.size := by omega
  have hz0 : ¬ 9223372036854775807 < x.size := by omega
  have hz1 : ¬ 9223372036854775807 < 0 + x.size := by omega
  clear hs
  have HB := hide (Below.refl W.heap.size W)
  go_enter Tryd.func76, Tryd.ntmps76
  go_wp2_with fail
  refine wp_loop_rounds 4 ?_
  rw [rounds_succ]
  go_wp2_with fail
  refine (unhide grp_0 _).mono ?_
  rintro _ w1 ⟨b0, rfl, hT, hb⟩
  have HB := hide (bthen (unhide HB) hb)
  clear hb hT
  have hl : relL.length = 11 := rfl
  rw [hl]
  clear hl
  go_wp2_with fail
  rw [rounds_succ]
  go_wp2_with fail
  refine (unhide grp_1 _).mono ?_
  rintro _ w2 ⟨b1, rfl, hT, hb⟩
  have HB := hide (bthen (unhide HB) hb)
  clear hb hT
  have hl : relL.length = 11 := rfl
  rw [hl]
  clear hl
  go_wp2_with fail
  rw [rounds_succ]
  go_wp2_with fail
  refine (unhide grp_2 _).mono ?_
  rintro _ w3 ⟨b2, rfl, hT, hb⟩
  have HB := hide (bthen (unhide HB) hb)
  clear hb hT
  have hl : floL.length = 6 := rfl
  rw [hl]
  clear hl
  go_wp2_with fail
  rw [rounds_succ]
  go_wp2_with fail
  refine (unhide grp_3 _).mono ?_
  rintro _ w4 ⟨b3, rfl, hT, hb⟩
  have HB := hide (bthen (unhide HB) hb)
  have hcell := hT i (.string x) (by rw [List.getElem?_map, hx]; rfl)
  clear hb hT
  have hl : floL.length = 6 := rfl
  rw [hl]
  clear hl
  go_wp2_with fail
  go_ret
  exact ⟨by first | rfl | simp, unhide HB⟩
set_option maxHeartbeats 4000000 in
set_option maxRecDepth 100000 in
theorem rnm_4 {op z0 z1 z2 z3 : Int} {i : Nat} {x : ByteArray} (g1 : ¬ 64512 ≤ op) (g2 : ¬ op < 69) (g3 : ¬ 191 < op) (e : IntKind.i64.wrap (op - 69) = z0) (h0 : ¬ z0 < 11) (e0 : IntKind.i64.wrap (z0 - 11) = z1) (h1 : ¬ z1 < 11) (e1 : IntKind.i64.wrap (z1 - 11) = z2) (h2 : ¬ z2 < 6) (e2 : IntKind.i64.wrap (z2 - 6) = z3) (h3 : ¬ z3 < 6) (e3 : IntKind.i64.wrap (z3 - 6) = (i : Int)) (hi : i < 18) (hx : whoL[i]? = some x) (hs : x.size ≤ 100) : Ct 76 #[.int .i64 op] (.string (⟨#[105, 51, 50, 46]⟩ ++ x)) := by
  refine hide (fun W => ?_)
  have hz : ¬ 9223372036854775807 < 4 + x.size := by omega
  have hz0 : ¬ 9223372036854775807 < x.size := by omega
  have hz1 : ¬ 9223372036854775807 < 0 + x.size := by omega
  clear hs
  have HB := hide (Below.refl W.heap.size W)
  go_enter Tryd.func76, Tryd.ntmps76
  go_wp2_with fail
  refine wp_loop_rounds 5 ?_
  rw [rounds_succ]
  go_wp2_with fail
  refine (unhide grp_0 _).mono ?_
  rintro _ w1 ⟨b0, rfl, hT, hb⟩
  have HB := hide (bthen (unhide HB) hb)
  clear hb hT
  have hl : relL.length = 11 := rfl
  rw [hl]
  clear hl
  go_wp2_with fail
  rw [rounds_succ]
  go_wp2_with fail
  refine (unhide grp_1 _).mono ?_
  rintro _ w2 ⟨b1, rfl, hT, hb⟩
  have HB := hide (bthen (unhide HB) hb)
  clear hb hT
  have hl : relL.length = 11 := rfl
  rw [hl]
  clear hl
  go_wp2_with fail
  rw [rounds_succ]
  go_wp2_with fail
  refine (unhide grp_2 _).mono ?_
  rintro _ w3 ⟨b2, rfl, hT, hb⟩
  have HB := hide (bthen (unhide HB) hb)
  clear hb hT
  have hl : floL.length = 6 := rfl
  rw [hl]
  clear hl
  go_wp2_with fail
  rw [rounds_succ]
  go_wp2_with fail
  refine (unhide grp_3 _).mono ?_
  rintro _ w4 ⟨b3, rfl, hT, hb⟩
  have HB := hide (bthen (unhide HB) hb)
  clear hb hT
  have hl : floL.length = 6 := rfl
  rw [hl]
  clear hl
  go_wp2_with fail
  rw [rounds_succ]
  go_wp2_with fail
  refine (unhide grp_4 _).mono ?_
  rintro _ w5 ⟨b4, rfl, hT, hb⟩
  have HB := hide (bthen (unhide HB) hb)
  have hcell := hT i (.string x) (by rw [List.getElem?_map, hx]; rfl)
  clear hb hT
  have hl : whoL.length = 18 := rfl
  rw [hl]
  clear hl
  go_wp2_with fail
  go_ret
  exact ⟨by first | rfl | simp, unhide HB⟩
set_option maxHeartbeats 4000000 in
set_option maxRecDepth 100000 in
theorem rnm_5 {op z0 z1 z2 z3 z4 : Int} {i : Nat} {x : ByteArray} (g1 : ¬ 64512 ≤ op) (g2 : ¬ op < 69) (g3 : ¬ 191 < op) (e : IntKind.i64.wrap (op - 69) = z0) (h0 : ¬ z0 < 11) (e0 : IntKind.i64.wrap (z0 - 11) = z1) (h1 : ¬ z1 < 11) (e1 : IntKind.i64.wrap (z1 - 11) = z2) (h2 : ¬ z2 < 6) (e2 : IntKind.i64.wrap (z2 - 6) = z3) (h3 : ¬ z3 < 6) (e3 : IntKind.i64.wrap (z3 - 6) = z4) (h4 : ¬ z4 < 18) (e4 : IntKind.i64.wrap (z4 - 18) = (i : Int)) (hi : i < 18) (hx : whoL[i]? = some x) (hs : x.size ≤ 100) : Ct 76 #[.int .i64 op] (.string (⟨#[105, 54, 52, 46]⟩ ++ x)) := by
  refine hide (fun W => ?_)
  have hz : ¬ 9223372036854775807 < 4 + x.size := by omega
  have hz0 : ¬ 9223372036854775807 < x.size := by omega
  have hz1 : ¬ 9223372036854775807 < 0 + x.size := by omega
  clear hs
  have HB := hide (Below.refl W.heap.size W)
  go_enter Tryd.func76, Tryd.ntmps76
  go_wp2_with fail
  refine wp_loop_rounds 6 ?_
  rw [rounds_succ]
  go_wp2_with fail
  refine (unhide grp_0 _).mono ?_
  rintro _ w1 ⟨b0, rfl, hT, hb⟩
  have HB := hide (bthen (unhide HB) hb)
  clear hb hT
  have hl : relL.length = 11 := rfl
  rw [hl]
  clear hl
  go_wp2_with fail
  rw [rounds_succ]
  go_wp2_with fail
  refine (unhide grp_1 _).mono ?_
  rintro _ w2 ⟨b1, rfl, hT, hb⟩
  have HB := hide (bthen (unhide HB) hb)
  clear hb hT
  have hl : relL.length = 11 := rfl
  rw [hl]
  clear hl
  go_wp2_with fail
  rw [rounds_succ]
  go_wp2_with fail
  refine (unhide grp_2 _).mono ?_
  rintro _ w3 ⟨b2, rfl, hT, hb⟩
  have HB := hide (bthen (unhide HB) hb)
  clear hb hT
  have hl : floL.length = 6 := rfl
  rw [hl]
  clear hl
  go_wp2_with fail
  rw [rounds_succ]
  go_wp2_with fail
  refine (unhide grp_3 _).mono ?_
  rintro _ w4 ⟨b3, rfl, hT, hb⟩
  have HB := hide (bthen (unhide HB) hb)
  clear hb hT
  have hl : floL.length = 6 := rfl
  rw [hl]
  clear hl
  go_wp2_with fail
  rw [rounds_succ]
  go_wp2_with fail
  refine (unhide grp_4 _).mono ?_
  rintro _ w5 ⟨b4, rfl, hT, hb⟩
  have HB := hide (bthen (unhide HB) hb)
  clear hb hT
  have hl : whoL.length = 18 := rfl
  rw [hl]
  clear hl
  go_wp2_with fail
  rw [rounds_succ]
  go_wp2_with fail
  refine (unhide grp_5 _).mono ?_
  rintro _ w6 ⟨b5, rfl, hT, hb⟩
  have HB := hide (bthen (unhide HB) hb)
  have hcell := hT i (.string x) (by rw [List.getElem?_map, hx]; rfl)
  clear hb hT
  have hl : whoL.length = 18 := rfl
  rw [hl]
  clear hl
  go_wp2_with fail
  go_ret
  exact ⟨by first | rfl | simp, unhide HB⟩
set_option maxHeartbeats 4000000 in
set_option maxRecDepth 100000 in
theorem rnm_6 {op z0 z1 z2 z3 z4 z5 : Int} {i : Nat} {x : ByteArray} (g1 : ¬ 64512 ≤ op) (g2 : ¬ op < 69) (g3 : ¬ 191 < op) (e : IntKind.i64.wrap (op - 69) = z0) (h0 : ¬ z0 < 11) (e0 : IntKind.i64.wrap (z0 - 11) = z1) (h1 : ¬ z1 < 11) (e1 : IntKind.i64.wrap (z1 - 11) = z2) (h2 : ¬ z2 < 6) (e2 : IntKind.i64.wrap (z2 - 6) = z3) (h3 : ¬ z3 < 6) (e3 : IntKind.i64.wrap (z3 - 6) = z4) (h4 : ¬ z4 < 18) (e4 : IntKind.i64.wrap (z4 - 18) = z5) (h5 : ¬ z5 < 18) (e5 : IntKind.i64.wrap (z5 - 18) = (i : Int)) (hi : i < 14) (hx : douL[i]? = some x) (hs : x.size ≤ 100) : Ct 76 #[.int .i64 op] (.string (⟨#[102, 51, 50, 46]⟩ ++ x)) := by
  refine hide (fun W => ?_)
  have hz : ¬ 9223372036854775807 < 4 + x.size := by omega
  have hz0 : ¬ 9223372036854775807 < x.size := by omega
  have hz1 : ¬ 9223372036854775807 < 0 + x.size := by omega
  clear hs
  have HB := hide (Below.refl W.heap.size W)
  go_enter Tryd.func76, Tryd.ntmps76
  go_wp2_with fail
  refine wp_loop_rounds 7 ?_
  rw [rounds_succ]
  go_wp2_with fail
  refine (unhide grp_0 _).mono ?_
  rintro _ w1 ⟨b0, rfl, hT, hb⟩
  have HB := hide (bthen (unhide HB) hb)
  clear hb hT
  have hl : relL.length = 11 := rfl
  rw [hl]
  clear hl
  go_wp2_with fail
  rw [rounds_succ]
  go_wp2_with fail
  refine (unhide grp_1 _).mono ?_
  rintro _ w2 ⟨b1, rfl, hT, hb⟩
  have HB := hide (bthen (unhide HB) hb)
  clear hb hT
  have hl : relL.length = 11 := rfl
  rw [hl]
  clear hl
  go_wp2_with fail
  rw [rounds_succ]
  go_wp2_with fail
  refine (unhide grp_2 _).mono ?_
  rintro _ w3 ⟨b2, rfl, hT, hb⟩
  have HB := hide (bthen (unhide HB) hb)
  clear hb hT
  have hl : floL.length = 6 := rfl
  rw [hl]
  clear hl
  go_wp2_with fail
  rw [rounds_succ]
  go_wp2_with fail
  refine (unhide grp_3 _).mono ?_
  rintro _ w4 ⟨b3, rfl, hT, hb⟩
  have HB := hide (bthen (unhide HB) hb)
  clear hb hT
  have hl : floL.length = 6 := rfl
  rw [hl]
  clear hl
  go_wp2_with fail
  rw [rounds_succ]
  go_wp2_with fail
  refine (unhide grp_4 _).mono ?_
  rintro _ w5 ⟨b4, rfl, hT, hb⟩
  have HB := hide (bthen (unhide HB) hb)
  clear hb hT
  have hl : whoL.length = 18 := rfl
  rw [hl]
  clear hl
  go_wp2_with fail
  rw [rounds_succ]
  go_wp2_with fail
  refine (unhide grp_5 _).mono ?_
  rintro _ w6 ⟨b5, rfl, hT, hb⟩
  have HB := hide (bthen (unhide HB) hb)
  clear hb hT
  have hl : whoL.length = 18 := rfl
  rw [hl]
  clear hl
  go_wp2_with fail
  rw [rounds_succ]
  go_wp2_with fail
  refine (unhide grp_6 _).mono ?_
  rintro _ w7 ⟨b6, rfl, hT, hb⟩
  have HB := hide (bthen (unhide HB) hb)
  have hcell := hT i (.string x) (by rw [List.getElem?_map, hx]; rfl)
  clear hb hT
  have hl : douL.length = 14 := rfl
  rw [hl]
  clear hl
  go_wp2_with fail
  go_ret
  exact ⟨by first | rfl | simp, unhide HB⟩
set_option maxHeartbeats 4000000 in
set_option maxRecDepth 100000 in
theorem rnm_7 {op z0 z1 z2 z3 z4 z5 z6 : Int} {i : Nat} {x : ByteArray} (g1 : ¬ 64512 ≤ op) (g2 : ¬ op < 69) (g3 : ¬ 191 < op) (e : IntKind.i64.wrap (op - 69) = z0) (h0 : ¬ z0 < 11) (e0 : IntKind.i64.wrap (z0 - 11) = z1) (h1 : ¬ z1 < 11) (e1 : IntKind.i64.wrap (z1 - 11) = z2) (h2 : ¬ z2 < 6) (e2 : IntKind.i64.wrap (z2 - 6) = z3) (h3 : ¬ z3 < 6) (e3 : IntKind.i64.wrap (z3 - 6) = z4) (h4 : ¬ z4 < 18) (e4 : IntKind.i64.wrap (z4 - 18) = z5) (h5 : ¬ z5 < 18) (e5 : IntKind.i64.wrap (z5 - 18) = z6) (h6 : ¬ z6 < 14) (e6 : IntKind.i64.wrap (z6 - 14) = (i : Int)) (hi : i < 14) (hx : douL[i]? = some x) (hs : x.size ≤ 100) : Ct 76 #[.int .i64 op] (.string (⟨#[102, 54, 52, 46]⟩ ++ x)) := by
  refine hide (fun W => ?_)
  have hz : ¬ 9223372036854775807 < 4 + x.size := by omega
  have hz0 : ¬ 9223372036854775807 < x.size := by omega
  have hz1 : ¬ 9223372036854775807 < 0 + x.size := by omega
  clear hs
  have HB := hide (Below.refl W.heap.size W)
  go_enter Tryd.func76, Tryd.ntmps76
  go_wp2_with fail
  refine wp_loop_rounds 8 ?_
  rw [rounds_succ]
  go_wp2_with fail
  refine (unhide grp_0 _).mono ?_
  rintro _ w1 ⟨b0, rfl, hT, hb⟩
  have HB := hide (bthen (unhide HB) hb)
  clear hb hT
  have hl : relL.length = 11 := rfl
  rw [hl]
  clear hl
  go_wp2_with fail
  rw [rounds_succ]
  go_wp2_with fail
  refine (unhide grp_1 _).mono ?_
  rintro _ w2 ⟨b1, rfl, hT, hb⟩
  have HB := hide (bthen (unhide HB) hb)
  clear hb hT
  have hl : relL.length = 11 := rfl
  rw [hl]
  clear hl
  go_wp2_with fail
  rw [rounds_succ]
  go_wp2_with fail
  refine (unhide grp_2 _).mono ?_
  rintro _ w3 ⟨b2, rfl, hT, hb⟩
  have HB := hide (bthen (unhide HB) hb)
  clear hb hT
  have hl : floL.length = 6 := rfl
  rw [hl]
  clear hl
  go_wp2_with fail
  rw [rounds_succ]
  go_wp2_with fail
  refine (unhide grp_3 _).mono ?_
  rintro _ w4 ⟨b3, rfl, hT, hb⟩
  have HB := hide (bthen (unhide HB) hb)
  clear hb hT
  have hl : floL.length = 6 := rfl
  rw [hl]
  clear hl
  go_wp2_with fail
  rw [rounds_succ]
  go_wp2_with fail
  refine (unhide grp_4 _).mono ?_
  rintro _ w5 ⟨b4, rfl, hT, hb⟩
  have HB := hide (bthen (unhide HB) hb)
  clear hb hT
  have hl : whoL.length = 18 := rfl
  rw [hl]
  clear hl
  go_wp2_with fail
  rw [rounds_succ]
  go_wp2_with fail
  refine (unhide grp_5 _).mono ?_
  rintro _ w6 ⟨b5, rfl, hT, hb⟩
  have HB := hide (bthen (unhide HB) hb)
  clear hb hT
  have hl : whoL.length = 18 := rfl
  rw [hl]
  clear hl
  go_wp2_with fail
  rw [rounds_succ]
  go_wp2_with fail
  refine (unhide grp_6 _).mono ?_
  rintro _ w7 ⟨b6, rfl, hT, hb⟩
  have HB := hide (bthen (unhide HB) hb)
  clear hb hT
  have hl : douL.length = 14 := rfl
  rw [hl]
  clear hl
  go_wp2_with fail
  rw [rounds_succ]
  go_wp2_with fail
  refine (unhide grp_7 _).mono ?_
  rintro _ w8 ⟨b7, rfl, hT, hb⟩
  have HB := hide (bthen (unhide HB) hb)
  have hcell := hT i (.string x) (by rw [List.getElem?_map, hx]; rfl)
  clear hb hT
  have hl : douL.length = 14 := rfl
  rw [hl]
  clear hl
  go_wp2_with fail
  go_ret
  exact ⟨by first | rfl | simp, unhide HB⟩
set_option maxHeartbeats 4000000 in
set_option maxRecDepth 100000 in
theorem rnm_8 {op z0 z1 z2 z3 z4 z5 z6 z7 : Int} {i : Nat} {x : ByteArray} (g1 : ¬ 64512 ≤ op) (g2 : ¬ op < 69) (g3 : ¬ 191 < op) (e : IntKind.i64.wrap (op - 69) = z0) (h0 : ¬ z0 < 11) (e0 : IntKind.i64.wrap (z0 - 11) = z1) (h1 : ¬ z1 < 11) (e1 : IntKind.i64.wrap (z1 - 11) = z2) (h2 : ¬ z2 < 6) (e2 : IntKind.i64.wrap (z2 - 6) = z3) (h3 : ¬ z3 < 6) (e3 : IntKind.i64.wrap (z3 - 6) = z4) (h4 : ¬ z4 < 18) (e4 : IntKind.i64.wrap (z4 - 18) = z5) (h5 : ¬ z5 < 18) (e5 : IntKind.i64.wrap (z5 - 18) = z6) (h6 : ¬ z6 < 14) (e6 : IntKind.i64.wrap (z6 - 14) = z7) (h7 : ¬ z7 < 14) (e7 : IntKind.i64.wrap (z7 - 14) = (i : Int)) (hi : i < 25) (hx : turL[i]? = some x) (hs : x.size ≤ 100) : Ct 76 #[.int .i64 op] (.string (⟨#[]⟩ ++ x)) := by
  refine hide (fun W => ?_)
  have hz : ¬ 9223372036854775807 < 4 + x.size := by omega
  have hz0 : ¬ 9223372036854775807 < x.size := by omega
  have hz1 : ¬ 9223372036854775807 < 0 + x.size := by omega
  clear hs
  have HB := hide (Below.refl W.heap.size W)
  go_enter Tryd.func76, Tryd.ntmps76
  go_wp2_with fail
  refine wp_loop_rounds 9 ?_
  rw [rounds_succ]
  go_wp2_with fail
  refine (unhide grp_0 _).mono ?_
  rintro _ w1 ⟨b0, rfl, hT, hb⟩
  have HB := hide (bthen (unhide HB) hb)
  clear hb hT
  have hl : relL.length = 11 := rfl
  rw [hl]
  clear hl
  go_wp2_with fail
  rw [rounds_succ]
  go_wp2_with fail
  refine (unhide grp_1 _).mono ?_
  rintro _ w2 ⟨b1, rfl, hT, hb⟩
  have HB := hide (bthen (unhide HB) hb)
  clear hb hT
  have hl : relL.length = 11 := rfl
  rw [hl]
  clear hl
  go_wp2_with fail
  rw [rounds_succ]
  go_wp2_with fail
  refine (unhide grp_2 _).mono ?_
  rintro _ w3 ⟨b2, rfl, hT, hb⟩
  have HB := hide (bthen (unhide HB) hb)
  clear hb hT
  have hl : floL.length = 6 := rfl
  rw [hl]
  clear hl
  go_wp2_with fail
  rw [rounds_succ]
  go_wp2_with fail
  refine (unhide grp_3 _).mono ?_
  rintro _ w4 ⟨b3, rfl, hT, hb⟩
  have HB := hide (bthen (unhide HB) hb)
  clear hb hT
  have hl : floL.length = 6 := rfl
  rw [hl]
  clear hl
  go_wp2_with fail
  rw [rounds_succ]
  go_wp2_with fail
  refine (unhide grp_4 _).mono ?_
  rintro _ w5 ⟨b4, rfl, hT, hb⟩
  have HB := hide (bthen (unhide HB) hb)
  clear hb hT
  have hl : whoL.length = 18 := rfl
  rw [hl]
  clear hl
  go_wp2_with fail
  rw [rounds_succ]
  go_wp2_with fail
  refine (unhide grp_5 _).mono ?_
  rintro _ w6 ⟨b5, rfl, hT, hb⟩
  have HB := hide (bthen (unhide HB) hb)
  clear hb hT
  have hl : whoL.length = 18 := rfl
  rw [hl]
  clear hl
  go_wp2_with fail
  rw [rounds_succ]
  go_wp2_with fail
  refine (unhide grp_6 _).mono ?_
  rintro _ w7 ⟨b6, rfl, hT, hb⟩
  have HB := hide (bthen (unhide HB) hb)
  clear hb hT
  have hl : douL.length = 14 := rfl
  rw [hl]
  clear hl
  go_wp2_with fail
  rw [rounds_succ]
  go_wp2_with fail
  refine (unhide grp_7 _).mono ?_
  rintro _ w8 ⟨b7, rfl, hT, hb⟩
  have HB := hide (bthen (unhide HB) hb)
  clear hb hT
  have hl : douL.length = 14 := rfl
  rw [hl]
  clear hl
  go_wp2_with fail
  rw [rounds_succ]
  go_wp2_with fail
  refine (unhide grp_8 _).mono ?_
  rintro _ w9 ⟨b8, rfl, hT, hb⟩
  have HB := hide (bthen (unhide HB) hb)
  have hcell := hT i (.string x) (by rw [List.getElem?_map, hx]; rfl)
  clear hb hT
  have hl : turL.length = 25 := rfl
  rw [hl]
  clear hl
  go_wp2_with fail
  go_ret
  exact ⟨by first | rfl | simp, unhide HB⟩
set_option maxHeartbeats 4000000 in
set_option maxRecDepth 100000 in
theorem rnm_s {op : Int} {i : Nat} {x : ByteArray} (g1 : 64512 ≤ op) (g2 : op < 64520) (e : IntKind.i64.wrap (op - 64512) = (i : Int)) (hi : i < 8) (hx : satL[i]? = some x) : Ct 76 #[.int .i64 op] (.string x) := by
  refine hide (fun W => ?_)
  have HB := hide (Below.refl W.heap.size W)
  go_enter Tryd.func76, Tryd.ntmps76
  go_wp2_with fail
  refine (unhide satL_l _).mono ?_
  rintro _ w1 ⟨b, rfl, hT, hb⟩
  have HB := hide (bthen (unhide HB) hb)
  have hcell := hT i (.string x) (by rw [List.getElem?_map, hx]; rfl)
  clear hb hT
  have hl : satL.length = 8 := rfl
  rw [hl]
  clear hl
  go_wp2_with fail
  go_ret
  exact ⟨rfl, unhide HB⟩
set_option maxHeartbeats 4000000 in
set_option maxRecDepth 100000 in
theorem rnm_no {op : Int} (h : op < 69 ∨ (192 ≤ op ∧ op < 64512) ∨ 64520 ≤ op) : Ct 76 #[.int .i64 op] (.string ⟨#[]⟩) := by
  refine hide (fun W => ?_)
  rcases h with h | ⟨h, h'⟩ | h
  · have g1 : ¬ 64512 ≤ op := by omega
    go_enter Tryd.func76, Tryd.ntmps76
    go_wp2_with fail
    go_ret
    exact ⟨rfl, Below.refl _ _⟩
  · have g1 : ¬ 64512 ≤ op := by omega
    have g2 : ¬ op < 69 := by omega
    have g3 : 191 < op := by omega
    go_enter Tryd.func76, Tryd.ntmps76
    go_wp2_with fail
    go_ret
    exact ⟨rfl, Below.refl _ _⟩
  · have g1 : 64512 ≤ op := by omega
    have g2 : ¬ op < 64520 := by omega
    have g3 : ¬ op < 69 := by omega
    have g4 : 191 < op := by omega
    go_enter Tryd.func76, Tryd.ntmps76
    go_wp2_with fail
    go_ret
    exact ⟨rfl, Below.refl _ _⟩
end Go.Proofs.YtalahdkgigcpfaaDoor
