/- Walks of package ints: the functions of one type. -/
import Derived.Test.YtjlegmgpgfjciaaDoorTk
namespace Go.Proofs.YtjlegmgpgfjciaaDoor
open Go.RowKit

set_option maxHeartbeats 4000000 in
set_option maxRecDepth 100000 in
theorem sum32_l {a b : Int}  : Ct 43 #[.int .u32 a, .int .u32 b] (.int .u64 ((a + b) % 4294967296)) := by
  refine hide (fun W => ?_)
  have HB := hide (Below.refl W.heap.size W)
  go_enter Tryd.func43, Tryd.ntmps43
  go_wp2_with fail
  go_ret
  exact ⟨by first | rfl | simp, unhide HB⟩
set_option maxHeartbeats 4000000 in
set_option maxRecDepth 100000 in
theorem sum64_l {a b : Int}  : Ct 44 #[.int .u64 a, .int .u64 b] (.int .u64 (IntKind.u64.wrap (a + b))) := by
  refine hide (fun W => ?_)
  have HB := hide (Below.refl W.heap.size W)
  go_enter Tryd.func44, Tryd.ntmps44
  go_wp2_with fail
  go_ret
  exact ⟨by first | rfl | simp, unhide HB⟩
set_option maxHeartbeats 4000000 in
set_option maxRecDepth 100000 in
theorem lef32_l {a b : Int} (b0 : 0 ≤ b) (b1 : b < 32) : Ct 48 #[.int .u32 a, .int .u32 b] (.int .u64 ((a * 2 ^ b.toNat) % 4294967296)) := by
  refine hide (fun W => ?_)
  have HB := hide (Below.refl W.heap.size W)
  go_enter Tryd.func48, Tryd.ntmps48
  go_wp2_with fail
  go_ret
  exact ⟨by first | rfl | simp, unhide HB⟩
set_option maxHeartbeats 4000000 in
set_option maxRecDepth 100000 in
theorem lef64_l {a b : Int} (b0 : 0 ≤ b) (b1 : b < 64) : Ct 49 #[.int .u64 a, .int .u64 b] (.int .u64 (IntKind.u64.wrap (a * 2 ^ b.toNat))) := by
  refine hide (fun W => ?_)
  have HB := hide (Below.refl W.heap.size W)
  go_enter Tryd.func49, Tryd.ntmps49
  go_wp2_with fail
  go_ret
  exact ⟨by first | rfl | simp, unhide HB⟩
set_option maxHeartbeats 4000000 in
set_option maxRecDepth 100000 in
theorem rig32_l {a b : Int} (b0 : 0 ≤ b) (b1 : b < 32) : Ct 50 #[.int .u32 a, .int .u32 b] (.int .u64 (IntKind.u64.wrap (a / 2 ^ b.toNat))) := by
  refine hide (fun W => ?_)
  have HB := hide (Below.refl W.heap.size W)
  go_enter Tryd.func50, Tryd.ntmps50
  go_wp2_with fail
  go_ret
  exact ⟨by first | rfl | simp, unhide HB⟩
set_option maxHeartbeats 4000000 in
set_option maxRecDepth 100000 in
theorem rig64_l {a b : Int} (b0 : 0 ≤ b) (b1 : b < 64) : Ct 51 #[.int .u64 a, .int .u64 b] (.int .u64 (a / 2 ^ b.toNat)) := by
  refine hide (fun W => ?_)
  have HB := hide (Below.refl W.heap.size W)
  go_enter Tryd.func51, Tryd.ntmps51
  go_wp2_with fail
  go_ret
  exact ⟨by first | rfl | simp, unhide HB⟩
set_option maxHeartbeats 4000000 in
set_option maxRecDepth 100000 in
theorem sar32_l {a b : Int} (b0 : 0 ≤ b) (b1 : b < 32) : Ct 40 #[.int .i32 a, .int .i32 b] (.int .u64 (IntKind.u64.wrap (a / 2 ^ b.toNat))) := by
  refine hide (fun W => ?_)
  have HB := hide (Below.refl W.heap.size W)
  go_enter Tryd.func40, Tryd.ntmps40
  go_wp2_with fail
  go_ret
  exact ⟨by first | rfl | simp, unhide HB⟩
set_option maxHeartbeats 4000000 in
set_option maxRecDepth 100000 in
theorem sar64_l {a b : Int} (b0 : 0 ≤ b) (b1 : b < 64) : Ct 41 #[.int .i64 a, .int .i64 b] (.int .u64 (IntKind.u64.wrap (a / 2 ^ b.toNat))) := by
  refine hide (fun W => ?_)
  have HB := hide (Below.refl W.heap.size W)
  go_enter Tryd.func41, Tryd.ntmps41
  go_wp2_with fail
  go_ret
  exact ⟨by first | rfl | simp, unhide HB⟩
set_option maxHeartbeats 4000000 in
set_option maxRecDepth 100000 in
theorem ltu32_l {a b : Int}  : Ct 29 #[.int .u32 a, .int .u32 b] (.bool (decide (a < b))) := by
  refine hide (fun W => ?_)
  have HB := hide (Below.refl W.heap.size W)
  go_enter Tryd.func29, Tryd.ntmps29
  go_wp2_with fail
  go_ret
  exact ⟨by first | rfl | simp, unhide HB⟩
set_option maxHeartbeats 4000000 in
set_option maxRecDepth 100000 in
theorem ltu64_l {a b : Int}  : Ct 30 #[.int .u64 a, .int .u64 b] (.bool (decide (a < b))) := by
  refine hide (fun W => ?_)
  have HB := hide (Below.refl W.heap.size W)
  go_enter Tryd.func30, Tryd.ntmps30
  go_wp2_with fail
  go_ret
  exact ⟨by first | rfl | simp, unhide HB⟩
set_option maxHeartbeats 4000000 in
set_option maxRecDepth 100000 in
theorem lts32_l {a b : Int}  : Ct 26 #[.int .i32 a, .int .i32 b] (.bool (decide (a < b))) := by
  refine hide (fun W => ?_)
  have HB := hide (Below.refl W.heap.size W)
  go_enter Tryd.func26, Tryd.ntmps26
  go_wp2_with fail
  go_ret
  exact ⟨by first | rfl | simp, unhide HB⟩
set_option maxHeartbeats 4000000 in
set_option maxRecDepth 100000 in
theorem lts64_l {a b : Int}  : Ct 27 #[.int .i64 a, .int .i64 b] (.bool (decide (a < b))) := by
  refine hide (fun W => ?_)
  have HB := hide (Below.refl W.heap.size W)
  go_enter Tryd.func27, Tryd.ntmps27
  go_wp2_with fail
  go_ret
  exact ⟨by first | rfl | simp, unhide HB⟩
set_option maxHeartbeats 4000000 in
set_option maxRecDepth 100000 in
theorem divs32_z {a b : Int} (g : b = 0) : Ct 54 #[.int .i32 a, .int .i32 b] (.agg #[.int .u64 0, .int .u64 0, .int .i64 2]) := by
  refine hide (fun W => ?_)
  go_enter Tryd.func54, Tryd.ntmps54
  go_wp2_with fail
  exact bodyPost_ret (v := .agg #[.int .u64 0, .int .u64 0, .int .i64 2]) (by simp [results, Tryd.results54, go_sem]) rfl ⟨rfl, below1 _ _⟩
set_option maxHeartbeats 4000000 in
set_option maxRecDepth 100000 in
theorem divs32_p {a b q r Q : Int} (a0 : 0 ≤ a) (g : ¬ b = 0) (hq : IntKind.i32.wrap (a.tdiv b) = q) (hQ : IntKind.u64.wrap q = Q) (hr : IntKind.u64.wrap (a % b) = r) : Ct 54 #[.int .i32 a, .int .i32 b] (.agg #[.int .u64 Q, .int .u64 r, .int .i64 0]) := by
  refine hide (fun W => ?_)
  go_enter Tryd.func54, Tryd.ntmps54
  go_wp2_with fail
  exact bodyPost_ret (v := .agg #[.int .u64 Q, .int .u64 r, .int .i64 0]) (by simp [results, Tryd.results54, go_sem]) rfl ⟨rfl, below1 _ _⟩
set_option maxHeartbeats 4000000 in
set_option maxRecDepth 100000 in
theorem divs32_m {a b q r Q : Int} (a0 : a < 0) (b0 : 0 ≤ b) (g : ¬ b = 0) (hq : IntKind.i32.wrap (a.tdiv b) = q) (hQ : IntKind.u64.wrap q = Q) (hr : IntKind.u64.wrap (a.tmod b) = r) : Ct 54 #[.int .i32 a, .int .i32 b] (.agg #[.int .u64 Q, .int .u64 r, .int .i64 0]) := by
  refine hide (fun W => ?_)
  go_enter Tryd.func54, Tryd.ntmps54
  go_wp2_with fail
  exact bodyPost_ret (v := .agg #[.int .u64 Q, .int .u64 r, .int .i64 0]) (by simp [results, Tryd.results54, go_sem]) rfl ⟨rfl, below1 _ _⟩
set_option maxHeartbeats 4000000 in
set_option maxRecDepth 100000 in
theorem divs32_n {a b q r Q : Int} (a0 : a < 0) (b0 : b < 0) (hq : IntKind.i32.wrap (a.tdiv b) = q) (q0 : 0 ≤ q) (hQ : IntKind.u64.wrap q = Q) (hr : IntKind.u64.wrap (a.tmod b) = r) : Ct 54 #[.int .i32 a, .int .i32 b] (.agg #[.int .u64 Q, .int .u64 r, .int .i64 0]) := by
  refine hide (fun W => ?_)
  go_enter Tryd.func54, Tryd.ntmps54
  go_wp2_with fail
  exact bodyPost_ret (v := .agg #[.int .u64 Q, .int .u64 r, .int .i64 0]) (by simp [results, Tryd.results54, go_sem]) rfl ⟨rfl, below1 _ _⟩
set_option maxHeartbeats 4000000 in
set_option maxRecDepth 100000 in
theorem divs32_o {a b q : Int} (a0 : a < 0) (b0 : b < 0) (hq : IntKind.i32.wrap (a.tdiv b) = q) (q0 : q < 0) : Ct 54 #[.int .i32 a, .int .i32 b] (.agg #[.int .u64 0, .int .u64 0, .int .i64 3]) := by
  refine hide (fun W => ?_)
  go_enter Tryd.func54, Tryd.ntmps54
  go_wp2_with fail
  exact bodyPost_ret (v := .agg #[.int .u64 0, .int .u64 0, .int .i64 3]) (by simp [results, Tryd.results54, go_sem]) rfl ⟨rfl, below1 _ _⟩
set_option maxHeartbeats 4000000 in
set_option maxRecDepth 100000 in
theorem divs64_z {a b : Int} (g : b = 0) : Ct 55 #[.int .i64 a, .int .i64 b] (.agg #[.int .u64 0, .int .u64 0, .int .i64 2]) := by
  refine hide (fun W => ?_)
  go_enter Tryd.func55, Tryd.ntmps55
  go_wp2_with fail
  exact bodyPost_ret (v := .agg #[.int .u64 0, .int .u64 0, .int .i64 2]) (by simp [results, Tryd.results55, go_sem]) rfl ⟨rfl, below1 _ _⟩
set_option maxHeartbeats 4000000 in
set_option maxRecDepth 100000 in
theorem divs64_p {a b q r Q : Int} (a0 : 0 ≤ a) (g : ¬ b = 0) (hq : IntKind.i64.wrap (a.tdiv b) = q) (hQ : IntKind.u64.wrap q = Q) (hr : IntKind.u64.wrap (a % b) = r) : Ct 55 #[.int .i64 a, .int .i64 b] (.agg #[.int .u64 Q, .int .u64 r, .int .i64 0]) := by
  refine hide (fun W => ?_)
  go_enter Tryd.func55, Tryd.ntmps55
  go_wp2_with fail
  exact bodyPost_ret (v := .agg #[.int .u64 Q, .int .u64 r, .int .i64 0]) (by simp [results, Tryd.results55, go_sem]) rfl ⟨rfl, below1 _ _⟩
set_option maxHeartbeats 4000000 in
set_option maxRecDepth 100000 in
theorem divs64_m {a b q r Q : Int} (a0 : a < 0) (b0 : 0 ≤ b) (g : ¬ b = 0) (hq : IntKind.i64.wrap (a.tdiv b) = q) (hQ : IntKind.u64.wrap q = Q) (hr : IntKind.u64.wrap (a.tmod b) = r) : Ct 55 #[.int .i64 a, .int .i64 b] (.agg #[.int .u64 Q, .int .u64 r, .int .i64 0]) := by
  refine hide (fun W => ?_)
  go_enter Tryd.func55, Tryd.ntmps55
  go_wp2_with fail
  exact bodyPost_ret (v := .agg #[.int .u64 Q, .int .u64 r, .int .i64 0]) (by simp [results, Tryd.results55, go_sem]) rfl ⟨rfl, below1 _ _⟩
set_option maxHeartbeats 4000000 in
set_option maxRecDepth 100000 in
theorem divs64_n {a b q r Q : Int} (a0 : a < 0) (b0 : b < 0) (hq : IntKind.i64.wrap (a.tdiv b) = q) (q0 : 0 ≤ q) (hQ : IntKind.u64.wrap q = Q) (hr : IntKind.u64.wrap (a.tmod b) = r) : Ct 55 #[.int .i64 a, .int .i64 b] (.agg #[.int .u64 Q, .int .u64 r, .int .i64 0]) := by
  refine hide (fun W => ?_)
  go_enter Tryd.func55, Tryd.ntmps55
  go_wp2_with fail
  exact bodyPost_ret (v := .agg #[.int .u64 Q, .int .u64 r, .int .i64 0]) (by simp [results, Tryd.results55, go_sem]) rfl ⟨rfl, below1 _ _⟩
set_option maxHeartbeats 4000000 in
set_option maxRecDepth 100000 in
theorem divs64_o {a b q : Int} (a0 : a < 0) (b0 : b < 0) (hq : IntKind.i64.wrap (a.tdiv b) = q) (q0 : q < 0) : Ct 55 #[.int .i64 a, .int .i64 b] (.agg #[.int .u64 0, .int .u64 0, .int .i64 3]) := by
  refine hide (fun W => ?_)
  go_enter Tryd.func55, Tryd.ntmps55
  go_wp2_with fail
  exact bodyPost_ret (v := .agg #[.int .u64 0, .int .u64 0, .int .i64 3]) (by simp [results, Tryd.results55, go_sem]) rfl ⟨rfl, below1 _ _⟩
set_option maxHeartbeats 4000000 in
set_option maxRecDepth 100000 in
theorem shifts_l {w b j k r : Int} (h1 : IntKind.i64.wrap (w - 1) = j) (h2 : IntKind.u64.wrap j = k) (h3 : bits .and .u64 b k = r) : Ct 39 #[.int .i64 w, .int .u64 b] (.int .u64 r) := by
  refine hide (fun W => ?_)
  have HB := hide (Below.refl W.heap.size W)
  go_enter Tryd.func39, Tryd.ntmps39
  go_wp2_with fail
  go_ret
  exact ⟨rfl, unhide HB⟩
set_option maxHeartbeats 4000000 in
set_option maxRecDepth 100000 in
theorem ones_l {a a2 p q x1 a4 p' q' x2 a16 s x3 a8 x4 b16 x5 c32 x6 r1 r : Int} (h1 : a / 2 = a2) (h2 : bits .and .u64 a2 6148914691236517205 = p) (h3 : bits .and .u64 a 6148914691236517205 = q) (h4 : IntKind.u64.wrap (p + q) = x1)
   (h5 : x1 / 4 = a4) (h6 : bits .and .u64 a4 3689348814741910323 = p') (h7 : bits .and .u64 x1 3689348814741910323 = q') (h8 : IntKind.u64.wrap (p' + q') = x2)
   (h9 : x2 / 16 = a16) (ha : IntKind.u64.wrap (a16 + x2) = s) (hb : bits .and .u64 s 1085102592571150095 = x3)
   (hc : x3 / 256 = a8) (hd : IntKind.u64.wrap (x3 + a8) = x4) (he : x4 / 65536 = b16) (hf : IntKind.u64.wrap (x4 + b16) = x5) (hg : x5 / 4294967296 = c32) (hh : IntKind.u64.wrap (x5 + c32) = x6) (hi : IntKind.i64.wrap x6 = r1) (hj : bits .and .i64 r1 127 = r) : Ct 24 #[.int .u64 a] (.int .i64 r) := by
  refine hide (fun W => ?_)
  have HB := hide (Below.refl W.heap.size W)
  go_enter Tryd.func24, Tryd.ntmps24
  go_wp2_with fail
  go_ret
  exact ⟨rfl, unhide HB⟩
end Go.Proofs.YtjlegmgpgfjciaaDoor
