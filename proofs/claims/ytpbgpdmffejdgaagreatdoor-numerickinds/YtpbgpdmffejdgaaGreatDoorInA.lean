/- Walks of package ints: the functions of one type. -/
import Derived.Test.YtpbgpdmffejdgaaGreatDoorTk
namespace Go.Proofs.YtpbgpdmffejdgaaGreatDoor
open Go.RowKit

set_option maxHeartbeats 4000000 in
set_option maxRecDepth 100000 in
theorem sum32_l {a b : Int}  : Ct 225 #[.int .u32 a, .int .u32 b] (.int .u64 ((a + b) % 4294967296)) := by
  refine hide (fun W => ?_)
  have HB := hide (Below.refl W.heap.size W)
  go_enter Tryz.func225, Tryz.ntmps225
  go_wp2_with fail
  go_ret
  exact ⟨by first | rfl | simp, unhide HB⟩
set_option maxHeartbeats 4000000 in
set_option maxRecDepth 100000 in
theorem sum64_l {a b : Int}  : Ct 226 #[.int .u64 a, .int .u64 b] (.int .u64 (IntKind.u64.wrap (a + b))) := by
  refine hide (fun W => ?_)
  have HB := hide (Below.refl W.heap.size W)
  go_enter Tryz.func226, Tryz.ntmps226
  go_wp2_with fail
  go_ret
  exact ⟨by first | rfl | simp, unhide HB⟩
set_option maxHeartbeats 4000000 in
set_option maxRecDepth 100000 in
theorem dif32_l {a b : Int}  : Ct 227 #[.int .u32 a, .int .u32 b] (.int .u64 ((a - b) % 4294967296)) := by
  refine hide (fun W => ?_)
  have HB := hide (Below.refl W.heap.size W)
  go_enter Tryz.func227, Tryz.ntmps227
  go_wp2_with fail
  go_ret
  exact ⟨by first | rfl | simp, unhide HB⟩
set_option maxHeartbeats 4000000 in
set_option maxRecDepth 100000 in
theorem dif64_l {a b : Int}  : Ct 228 #[.int .u64 a, .int .u64 b] (.int .u64 (IntKind.u64.wrap (a - b))) := by
  refine hide (fun W => ?_)
  have HB := hide (Below.refl W.heap.size W)
  go_enter Tryz.func228, Tryz.ntmps228
  go_wp2_with fail
  go_ret
  exact ⟨by first | rfl | simp, unhide HB⟩
set_option maxHeartbeats 4000000 in
set_option maxRecDepth 100000 in
theorem pro32_l {a b : Int}  : Ct 229 #[.int .u32 a, .int .u32 b] (.int .u64 ((a * b) % 4294967296)) := by
  refine hide (fun W => ?_)
  have HB := hide (Below.refl W.heap.size W)
  go_enter Tryz.func229, Tryz.ntmps229
  go_wp2_with fail
  go_ret
  exact ⟨by first | rfl | simp, unhide HB⟩
set_option maxHeartbeats 4000000 in
set_option maxRecDepth 100000 in
theorem pro64_l {a b : Int}  : Ct 230 #[.int .u64 a, .int .u64 b] (.int .u64 (IntKind.u64.wrap (a * b))) := by
  refine hide (fun W => ?_)
  have HB := hide (Below.refl W.heap.size W)
  go_enter Tryz.func230, Tryz.ntmps230
  go_wp2_with fail
  go_ret
  exact ⟨by first | rfl | simp, unhide HB⟩
set_option maxHeartbeats 4000000 in
set_option maxRecDepth 100000 in
theorem lef32_l {a b : Int} (b0 : 0 ≤ b) (b1 : b < 32) : Ct 214 #[.int .u32 a, .int .u32 b] (.int .u64 ((a * 2 ^ b.toNat) % 4294967296)) := by
  refine hide (fun W => ?_)
  have HB := hide (Below.refl W.heap.size W)
  go_enter Tryz.func214, Tryz.ntmps214
  go_wp2_with fail
  go_ret
  exact ⟨by first | rfl | simp, unhide HB⟩
set_option maxHeartbeats 4000000 in
set_option maxRecDepth 100000 in
theorem lef64_l {a b : Int} (b0 : 0 ≤ b) (b1 : b < 64) : Ct 215 #[.int .u64 a, .int .u64 b] (.int .u64 (IntKind.u64.wrap (a * 2 ^ b.toNat))) := by
  refine hide (fun W => ?_)
  have HB := hide (Below.refl W.heap.size W)
  go_enter Tryz.func215, Tryz.ntmps215
  go_wp2_with fail
  go_ret
  exact ⟨by first | rfl | simp, unhide HB⟩
set_option maxHeartbeats 4000000 in
set_option maxRecDepth 100000 in
theorem rig32_l {a b : Int} (b0 : 0 ≤ b) (b1 : b < 32) : Ct 219 #[.int .u32 a, .int .u32 b] (.int .u64 (IntKind.u64.wrap (a / 2 ^ b.toNat))) := by
  refine hide (fun W => ?_)
  have HB := hide (Below.refl W.heap.size W)
  go_enter Tryz.func219, Tryz.ntmps219
  go_wp2_with fail
  go_ret
  exact ⟨by first | rfl | simp, unhide HB⟩
set_option maxHeartbeats 4000000 in
set_option maxRecDepth 100000 in
theorem rig64_l {a b : Int} (b0 : 0 ≤ b) (b1 : b < 64) : Ct 220 #[.int .u64 a, .int .u64 b] (.int .u64 (a / 2 ^ b.toNat)) := by
  refine hide (fun W => ?_)
  have HB := hide (Below.refl W.heap.size W)
  go_enter Tryz.func220, Tryz.ntmps220
  go_wp2_with fail
  go_ret
  exact ⟨by first | rfl | simp, unhide HB⟩
set_option maxHeartbeats 4000000 in
set_option maxRecDepth 100000 in
theorem sar32_l {a b : Int} (b0 : 0 ≤ b) (b1 : b < 32) : Ct 217 #[.int .i32 a, .int .i32 b] (.int .u64 (IntKind.u64.wrap (a / 2 ^ b.toNat))) := by
  refine hide (fun W => ?_)
  have HB := hide (Below.refl W.heap.size W)
  go_enter Tryz.func217, Tryz.ntmps217
  go_wp2_with fail
  go_ret
  exact ⟨by first | rfl | simp, unhide HB⟩
set_option maxHeartbeats 4000000 in
set_option maxRecDepth 100000 in
theorem sar64_l {a b : Int} (b0 : 0 ≤ b) (b1 : b < 64) : Ct 218 #[.int .i64 a, .int .i64 b] (.int .u64 (IntKind.u64.wrap (a / 2 ^ b.toNat))) := by
  refine hide (fun W => ?_)
  have HB := hide (Below.refl W.heap.size W)
  go_enter Tryz.func218, Tryz.ntmps218
  go_wp2_with fail
  go_ret
  exact ⟨by first | rfl | simp, unhide HB⟩
set_option maxHeartbeats 4000000 in
set_option maxRecDepth 100000 in
theorem ltu32_l {a b : Int}  : Ct 127 #[.int .u32 a, .int .u32 b] (.bool (decide (a < b))) := by
  refine hide (fun W => ?_)
  have HB := hide (Below.refl W.heap.size W)
  go_enter Tryz.func127, Tryz.ntmps127
  go_wp2_with fail
  go_ret
  exact ⟨by first | rfl | simp, unhide HB⟩
set_option maxHeartbeats 4000000 in
set_option maxRecDepth 100000 in
theorem ltu64_l {a b : Int}  : Ct 128 #[.int .u64 a, .int .u64 b] (.bool (decide (a < b))) := by
  refine hide (fun W => ?_)
  have HB := hide (Below.refl W.heap.size W)
  go_enter Tryz.func128, Tryz.ntmps128
  go_wp2_with fail
  go_ret
  exact ⟨by first | rfl | simp, unhide HB⟩
set_option maxHeartbeats 4000000 in
set_option maxRecDepth 100000 in
theorem divu32_z {a b : Int} (g : b = 0) : Ct 210 #[.int .u32 a, .int .u32 b] (.agg #[.int .u64 0, .int .u64 0, .int .i64 2]) := by
  refine hide (fun W => ?_)
  go_enter Tryz.func210, Tryz.ntmps210
  go_wp2_with fail
  exact bodyPost_ret (v := .agg #[.int .u64 0, .int .u64 0, .int .i64 2]) (by simp [results, Tryz.results210, go_sem]) rfl ⟨rfl, below1 _ _⟩
set_option maxHeartbeats 4000000 in
set_option maxRecDepth 100000 in
theorem divu32_p {a b q r : Int} (a0 : 0 ≤ a) (a1 : a < 4294967296) (b0 : 0 ≤ b) (b1 : b < 4294967296) (g : ¬ b = 0) (hq : a / b = q) (hr : a % b = r) (hQ : IntKind.u64.wrap q = q) (hR : IntKind.u64.wrap r = r) : Ct 210 #[.int .u32 a, .int .u32 b] (.agg #[.int .u64 q, .int .u64 r, .int .i64 0]) := by
  refine hide (fun W => ?_)
  go_enter Tryz.func210, Tryz.ntmps210
  go_wp2_with fail
  exact bodyPost_ret (v := .agg #[.int .u64 q, .int .u64 r, .int .i64 0]) (by simp [results, Tryz.results210, go_sem]) rfl ⟨rfl, below1 _ _⟩
set_option maxHeartbeats 4000000 in
set_option maxRecDepth 100000 in
theorem divu64_z {a b : Int} (g : b = 0) : Ct 211 #[.int .u64 a, .int .u64 b] (.agg #[.int .u64 0, .int .u64 0, .int .i64 2]) := by
  refine hide (fun W => ?_)
  go_enter Tryz.func211, Tryz.ntmps211
  go_wp2_with fail
  exact bodyPost_ret (v := .agg #[.int .u64 0, .int .u64 0, .int .i64 2]) (by simp [results, Tryz.results211, go_sem]) rfl ⟨rfl, below1 _ _⟩
set_option maxHeartbeats 4000000 in
set_option maxRecDepth 100000 in
theorem divu64_p {a b q r : Int} (a0 : 0 ≤ a) (a1 : a < 18446744073709551616) (b0 : 0 ≤ b) (b1 : b < 18446744073709551616) (g : ¬ b = 0) (hq : a / b = q) (hr : a % b = r) : Ct 211 #[.int .u64 a, .int .u64 b] (.agg #[.int .u64 q, .int .u64 r, .int .i64 0]) := by
  refine hide (fun W => ?_)
  go_enter Tryz.func211, Tryz.ntmps211
  go_wp2_with fail
  exact bodyPost_ret (v := .agg #[.int .u64 q, .int .u64 r, .int .i64 0]) (by simp [results, Tryz.results211, go_sem]) rfl ⟨rfl, below1 _ _⟩
set_option maxHeartbeats 4000000 in
set_option maxRecDepth 100000 in
theorem divs32_z {a b : Int} (g : b = 0) : Ct 207 #[.int .i32 a, .int .i32 b] (.agg #[.int .u64 0, .int .u64 0, .int .i64 2]) := by
  refine hide (fun W => ?_)
  go_enter Tryz.func207, Tryz.ntmps207
  go_wp2_with fail
  exact bodyPost_ret (v := .agg #[.int .u64 0, .int .u64 0, .int .i64 2]) (by simp [results, Tryz.results207, go_sem]) rfl ⟨rfl, below1 _ _⟩
set_option maxHeartbeats 4000000 in
set_option maxRecDepth 100000 in
theorem divs32_p {a b q r Q : Int} (a0 : 0 ≤ a) (g : ¬ b = 0) (hq : IntKind.i32.wrap (a.tdiv b) = q) (hQ : IntKind.u64.wrap q = Q) (hr : IntKind.u64.wrap (a % b) = r) : Ct 207 #[.int .i32 a, .int .i32 b] (.agg #[.int .u64 Q, .int .u64 r, .int .i64 0]) := by
  refine hide (fun W => ?_)
  go_enter Tryz.func207, Tryz.ntmps207
  go_wp2_with fail
  exact bodyPost_ret (v := .agg #[.int .u64 Q, .int .u64 r, .int .i64 0]) (by simp [results, Tryz.results207, go_sem]) rfl ⟨rfl, below1 _ _⟩
set_option maxHeartbeats 4000000 in
set_option maxRecDepth 100000 in
theorem divs32_m {a b q r Q : Int} (a0 : a < 0) (b0 : 0 ≤ b) (g : ¬ b = 0) (hq : IntKind.i32.wrap (a.tdiv b) = q) (hQ : IntKind.u64.wrap q = Q) (hr : IntKind.u64.wrap (a.tmod b) = r) : Ct 207 #[.int .i32 a, .int .i32 b] (.agg #[.int .u64 Q, .int .u64 r, .int .i64 0]) := by
  refine hide (fun W => ?_)
  go_enter Tryz.func207, Tryz.ntmps207
  go_wp2_with fail
  exact bodyPost_ret (v := .agg #[.int .u64 Q, .int .u64 r, .int .i64 0]) (by simp [results, Tryz.results207, go_sem]) rfl ⟨rfl, below1 _ _⟩
set_option maxHeartbeats 4000000 in
set_option maxRecDepth 100000 in
theorem divs32_n {a b q r Q : Int} (a0 : a < 0) (b0 : b < 0) (hq : IntKind.i32.wrap (a.tdiv b) = q) (q0 : 0 ≤ q) (hQ : IntKind.u64.wrap q = Q) (hr : IntKind.u64.wrap (a.tmod b) = r) : Ct 207 #[.int .i32 a, .int .i32 b] (.agg #[.int .u64 Q, .int .u64 r, .int .i64 0]) := by
  refine hide (fun W => ?_)
  go_enter Tryz.func207, Tryz.ntmps207
  go_wp2_with fail
  exact bodyPost_ret (v := .agg #[.int .u64 Q, .int .u64 r, .int .i64 0]) (by simp [results, Tryz.results207, go_sem]) rfl ⟨rfl, below1 _ _⟩
set_option maxHeartbeats 4000000 in
set_option maxRecDepth 100000 in
theorem divs32_o {a b q : Int} (a0 : a < 0) (b0 : b < 0) (hq : IntKind.i32.wrap (a.tdiv b) = q) (q0 : q < 0) : Ct 207 #[.int .i32 a, .int .i32 b] (.agg #[.int .u64 0, .int .u64 0, .int .i64 3]) := by
  refine hide (fun W => ?_)
  go_enter Tryz.func207, Tryz.ntmps207
  go_wp2_with fail
  exact bodyPost_ret (v := .agg #[.int .u64 0, .int .u64 0, .int .i64 3]) (by simp [results, Tryz.results207, go_sem]) rfl ⟨rfl, below1 _ _⟩
set_option maxHeartbeats 4000000 in
set_option maxRecDepth 100000 in
theorem divs64_z {a b : Int} (g : b = 0) : Ct 208 #[.int .i64 a, .int .i64 b] (.agg #[.int .u64 0, .int .u64 0, .int .i64 2]) := by
  refine hide (fun W => ?_)
  go_enter Tryz.func208, Tryz.ntmps208
  go_wp2_with fail
  exact bodyPost_ret (v := .agg #[.int .u64 0, .int .u64 0, .int .i64 2]) (by simp [results, Tryz.results208, go_sem]) rfl ⟨rfl, below1 _ _⟩
set_option maxHeartbeats 4000000 in
set_option maxRecDepth 100000 in
theorem divs64_p {a b q r Q : Int} (a0 : 0 ≤ a) (g : ¬ b = 0) (hq : IntKind.i64.wrap (a.tdiv b) = q) (hQ : IntKind.u64.wrap q = Q) (hr : IntKind.u64.wrap (a % b) = r) : Ct 208 #[.int .i64 a, .int .i64 b] (.agg #[.int .u64 Q, .int .u64 r, .int .i64 0]) := by
  refine hide (fun W => ?_)
  go_enter Tryz.func208, Tryz.ntmps208
  go_wp2_with fail
  exact bodyPost_ret (v := .agg #[.int .u64 Q, .int .u64 r, .int .i64 0]) (by simp [results, Tryz.results208, go_sem]) rfl ⟨rfl, below1 _ _⟩
set_option maxHeartbeats 4000000 in
set_option maxRecDepth 100000 in
theorem divs64_m {a b q r Q : Int} (a0 : a < 0) (b0 : 0 ≤ b) (g : ¬ b = 0) (hq : IntKind.i64.wrap (a.tdiv b) = q) (hQ : IntKind.u64.wrap q = Q) (hr : IntKind.u64.wrap (a.tmod b) = r) : Ct 208 #[.int .i64 a, .int .i64 b] (.agg #[.int .u64 Q, .int .u64 r, .int .i64 0]) := by
  refine hide (fun W => ?_)
  go_enter Tryz.func208, Tryz.ntmps208
  go_wp2_with fail
  exact bodyPost_ret (v := .agg #[.int .u64 Q, .int .u64 r, .int .i64 0]) (by simp [results, Tryz.results208, go_sem]) rfl ⟨rfl, below1 _ _⟩
set_option maxHeartbeats 4000000 in
set_option maxRecDepth 100000 in
theorem divs64_n {a b q r Q : Int} (a0 : a < 0) (b0 : b < 0) (hq : IntKind.i64.wrap (a.tdiv b) = q) (q0 : 0 ≤ q) (hQ : IntKind.u64.wrap q = Q) (hr : IntKind.u64.wrap (a.tmod b) = r) : Ct 208 #[.int .i64 a, .int .i64 b] (.agg #[.int .u64 Q, .int .u64 r, .int .i64 0]) := by
  refine hide (fun W => ?_)
  go_enter Tryz.func208, Tryz.ntmps208
  go_wp2_with fail
  exact bodyPost_ret (v := .agg #[.int .u64 Q, .int .u64 r, .int .i64 0]) (by simp [results, Tryz.results208, go_sem]) rfl ⟨rfl, below1 _ _⟩
set_option maxHeartbeats 4000000 in
set_option maxRecDepth 100000 in
theorem divs64_o {a b q : Int} (a0 : a < 0) (b0 : b < 0) (hq : IntKind.i64.wrap (a.tdiv b) = q) (q0 : q < 0) : Ct 208 #[.int .i64 a, .int .i64 b] (.agg #[.int .u64 0, .int .u64 0, .int .i64 3]) := by
  refine hide (fun W => ?_)
  go_enter Tryz.func208, Tryz.ntmps208
  go_wp2_with fail
  exact bodyPost_ret (v := .agg #[.int .u64 0, .int .u64 0, .int .i64 3]) (by simp [results, Tryz.results208, go_sem]) rfl ⟨rfl, below1 _ _⟩
set_option maxHeartbeats 4000000 in
set_option maxRecDepth 100000 in
theorem shifts_l {w b j k r : Int} (h1 : IntKind.i64.wrap (w - 1) = j) (h2 : IntKind.u64.wrap j = k) (h3 : bits .and .u64 b k = r) : Ct 213 #[.int .i64 w, .int .u64 b] (.int .u64 r) := by
  refine hide (fun W => ?_)
  have HB := hide (Below.refl W.heap.size W)
  go_enter Tryz.func213, Tryz.ntmps213
  go_wp2_with fail
  go_ret
  exact ⟨rfl, unhide HB⟩
set_option maxHeartbeats 4000000 in
set_option maxRecDepth 100000 in
theorem ones_l {a a2 p q x1 a4 p' q' x2 a16 s x3 a8 x4 b16 x5 c32 x6 r1 r : Int} (h1 : a / 2 = a2) (h2 : bits .and .u64 a2 6148914691236517205 = p) (h3 : bits .and .u64 a 6148914691236517205 = q) (h4 : IntKind.u64.wrap (p + q) = x1)
   (h5 : x1 / 4 = a4) (h6 : bits .and .u64 a4 3689348814741910323 = p') (h7 : bits .and .u64 x1 3689348814741910323 = q') (h8 : IntKind.u64.wrap (p' + q') = x2)
   (h9 : x2 / 16 = a16) (ha : IntKind.u64.wrap (a16 + x2) = s) (hb : bits .and .u64 s 1085102592571150095 = x3)
   (hc : x3 / 256 = a8) (hd : IntKind.u64.wrap (x3 + a8) = x4) (he : x4 / 65536 = b16) (hf : IntKind.u64.wrap (x4 + b16) = x5) (hg : x5 / 4294967296 = c32) (hh : IntKind.u64.wrap (x5 + c32) = x6) (hi : IntKind.i64.wrap x6 = r1) (hj : bits .and .i64 r1 127 = r) : Ct 224 #[.int .u64 a] (.int .i64 r) := by
  refine hide (fun W => ?_)
  have HB := hide (Below.refl W.heap.size W)
  go_enter Tryz.func224, Tryz.ntmps224
  go_wp2_with fail
  go_ret
  exact ⟨rfl, unhide HB⟩
set_option maxHeartbeats 4000000 in
set_option maxRecDepth 100000 in
theorem lts32_l {a b : Int}  : Ct 124 #[.int .i32 a, .int .i32 b] (.bool (decide (a < b))) := by
  refine hide (fun W => ?_)
  have HB := hide (Below.refl W.heap.size W)
  go_enter Tryz.func124, Tryz.ntmps124
  go_wp2_with fail
  go_ret
  exact ⟨by first | rfl | simp, unhide HB⟩
set_option maxHeartbeats 4000000 in
set_option maxRecDepth 100000 in
theorem lts64_l {a b : Int}  : Ct 125 #[.int .i64 a, .int .i64 b] (.bool (decide (a < b))) := by
  refine hide (fun W => ?_)
  have HB := hide (Below.refl W.heap.size W)
  go_enter Tryz.func125, Tryz.ntmps125
  go_wp2_with fail
  go_ret
  exact ⟨by first | rfl | simp, unhide HB⟩
end Go.Proofs.YtpbgpdmffejdgaaGreatDoor
