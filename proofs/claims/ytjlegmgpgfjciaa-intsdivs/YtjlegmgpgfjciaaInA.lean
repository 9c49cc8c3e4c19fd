/- Walks of package ints: the functions of one type. -/
import Derived.Test.YtjlegmgpgfjciaaTk
namespace Go.Proofs.Ytjlegmgpgfjciaa
open Go.RowKit

set_option maxHeartbeats 4000000 in
set_option maxRecDepth 100000 in
theorem sum32_l {a b : Int}  : Ct 33 #[.int .u32 a, .int .u32 b] (.int .u64 ((a + b) % 4294967296)) := by
  refine hide (fun W => ?_)
  have HB := hide (Below.refl W.heap.size W)
  go_enter Try.func33, Try.ntmps33
  go_wp2_with fail
  go_ret
  exact ⟨by first | rfl | simp, unhide HB⟩
set_option maxHeartbeats 4000000 in
set_option maxRecDepth 100000 in
theorem sum64_l {a b : Int}  : Ct 34 #[.int .u64 a, .int .u64 b] (.int .u64 (IntKind.u64.wrap (a + b))) := by
  refine hide (fun W => ?_)
  have HB := hide (Below.refl W.heap.size W)
  go_enter Try.func34, Try.ntmps34
  go_wp2_with fail
  go_ret
  exact ⟨by first | rfl | simp, unhide HB⟩
set_option maxHeartbeats 4000000 in
set_option maxRecDepth 100000 in
theorem dif32_l {a b : Int}  : Ct 35 #[.int .u32 a, .int .u32 b] (.int .u64 ((a - b) % 4294967296)) := by
  refine hide (fun W => ?_)
  have HB := hide (Below.refl W.heap.size W)
  go_enter Try.func35, Try.ntmps35
  go_wp2_with fail
  go_ret
  exact ⟨by first | rfl | simp, unhide HB⟩
set_option maxHeartbeats 4000000 in
set_option maxRecDepth 100000 in
theorem dif64_l {a b : Int}  : Ct 36 #[.int .u64 a, .int .u64 b] (.int .u64 (IntKind.u64.wrap (a - b))) := by
  refine hide (fun W => ?_)
  have HB := hide (Below.refl W.heap.size W)
  go_enter Try.func36, Try.ntmps36
  go_wp2_with fail
  go_ret
  exact ⟨by first | rfl | simp, unhide HB⟩
set_option maxHeartbeats 4000000 in
set_option maxRecDepth 100000 in
theorem pro32_l {a b : Int}  : Ct 37 #[.int .u32 a, .int .u32 b] (.int .u64 ((a * b) % 4294967296)) := by
  refine hide (fun W => ?_)
  have HB := hide (Below.refl W.heap.size W)
  go_enter Try.func37, Try.ntmps37
  go_wp2_with fail
  go_ret
  exact ⟨by first | rfl | simp, unhide HB⟩
set_option maxHeartbeats 4000000 in
set_option maxRecDepth 100000 in
theorem pro64_l {a b : Int}  : Ct 38 #[.int .u64 a, .int .u64 b] (.int .u64 (IntKind.u64.wrap (a * b))) := by
  refine hide (fun W => ?_)
  have HB := hide (Below.refl W.heap.size W)
  go_enter Try.func38, Try.ntmps38
  go_wp2_with fail
  go_ret
  exact ⟨by first | rfl | simp, unhide HB⟩
set_option maxHeartbeats 4000000 in
set_option maxRecDepth 100000 in
theorem lef32_l {a b : Int} (b0 : 0 ≤ b) (b1 : b < 32) : Ct 54 #[.int .u32 a, .int .u32 b] (.int .u64 ((a * 2 ^ b.toNat) % 4294967296)) := by
  refine hide (fun W => ?_)
  have HB := hide (Below.refl W.heap.size W)
  go_enter Try.func54, Try.ntmps54
  go_wp2_with fail
  go_ret
  exact ⟨by first | rfl | simp, unhide HB⟩
set_option maxHeartbeats 4000000 in
set_option maxRecDepth 100000 in
theorem lef64_l {a b : Int} (b0 : 0 ≤ b) (b1 : b < 64) : Ct 55 #[.int .u64 a, .int .u64 b] (.int .u64 (IntKind.u64.wrap (a * 2 ^ b.toNat))) := by
  refine hide (fun W => ?_)
  have HB := hide (Below.refl W.heap.size W)
  go_enter Try.func55, Try.ntmps55
  go_wp2_with fail
  go_ret
  exact ⟨by first | rfl | simp, unhide HB⟩
set_option maxHeartbeats 4000000 in
set_option maxRecDepth 100000 in
theorem rig32_l {a b : Int} (b0 : 0 ≤ b) (b1 : b < 32) : Ct 56 #[.int .u32 a, .int .u32 b] (.int .u64 (IntKind.u64.wrap (a / 2 ^ b.toNat))) := by
  refine hide (fun W => ?_)
  have HB := hide (Below.refl W.heap.size W)
  go_enter Try.func56, Try.ntmps56
  go_wp2_with fail
  go_ret
  exact ⟨by first | rfl | simp, unhide HB⟩
set_option maxHeartbeats 4000000 in
set_option maxRecDepth 100000 in
theorem rig64_l {a b : Int} (b0 : 0 ≤ b) (b1 : b < 64) : Ct 57 #[.int .u64 a, .int .u64 b] (.int .u64 (a / 2 ^ b.toNat)) := by
  refine hide (fun W => ?_)
  have HB := hide (Below.refl W.heap.size W)
  go_enter Try.func57, Try.ntmps57
  go_wp2_with fail
  go_ret
  exact ⟨by first | rfl | simp, unhide HB⟩
set_option maxHeartbeats 4000000 in
set_option maxRecDepth 100000 in
theorem sar32_l {a b : Int} (b0 : 0 ≤ b) (b1 : b < 32) : Ct 59 #[.int .i32 a, .int .i32 b] (.int .u64 (IntKind.u64.wrap (a / 2 ^ b.toNat))) := by
  refine hide (fun W => ?_)
  have HB := hide (Below.refl W.heap.size W)
  go_enter Try.func59, Try.ntmps59
  go_wp2_with fail
  go_ret
  exact ⟨by first | rfl | simp, unhide HB⟩
set_option maxHeartbeats 4000000 in
set_option maxRecDepth 100000 in
theorem sar64_l {a b : Int} (b0 : 0 ≤ b) (b1 : b < 64) : Ct 60 #[.int .i64 a, .int .i64 b] (.int .u64 (IntKind.u64.wrap (a / 2 ^ b.toNat))) := by
  refine hide (fun W => ?_)
  have HB := hide (Below.refl W.heap.size W)
  go_enter Try.func60, Try.ntmps60
  go_wp2_with fail
  go_ret
  exact ⟨by first | rfl | simp, unhide HB⟩
set_option maxHeartbeats 4000000 in
set_option maxRecDepth 100000 in
theorem ltu32_l {a b : Int}  : Ct 64 #[.int .u32 a, .int .u32 b] (.bool (decide (a < b))) := by
  refine hide (fun W => ?_)
  have HB := hide (Below.refl W.heap.size W)
  go_enter Try.func64, Try.ntmps64
  go_wp2_with fail
  go_ret
  exact ⟨by first | rfl | simp, unhide HB⟩
set_option maxHeartbeats 4000000 in
set_option maxRecDepth 100000 in
theorem ltu64_l {a b : Int}  : Ct 65 #[.int .u64 a, .int .u64 b] (.bool (decide (a < b))) := by
  refine hide (fun W => ?_)
  have HB := hide (Below.refl W.heap.size W)
  go_enter Try.func65, Try.ntmps65
  go_wp2_with fail
  go_ret
  exact ⟨by first | rfl | simp, unhide HB⟩
set_option maxHeartbeats 4000000 in
set_option maxRecDepth 100000 in
theorem divu32_z {a b : Int} (g : b = 0) : Ct 71 #[.int .u32 a, .int .u32 b] (.agg #[.int .u64 0, .int .u64 0, .int .i64 2]) := by
  refine hide (fun W => ?_)
  go_enter Try.func71, Try.ntmps71
  go_wp2_with fail
  exact bodyPost_ret (v := .agg #[.int .u64 0, .int .u64 0, .int .i64 2]) (by simp [results, Try.results71, go_sem]) rfl ⟨rfl, below1 _ _⟩
set_option maxHeartbeats 4000000 in
set_option maxRecDepth 100000 in
theorem divu32_p {a b q r : Int} (a0 : 0 ≤ a) (a1 : a < 4294967296) (b0 : 0 ≤ b) (b1 : b < 4294967296) (g : ¬ b = 0) (hq : a / b = q) (hr : a % b = r) (hQ : IntKind.u64.wrap q = q) (hR : IntKind.u64.wrap r = r) : Ct 71 #[.int .u32 a, .int .u32 b] (.agg #[.int .u64 q, .int .u64 r, .int .i64 0]) := by
  refine hide (fun W => ?_)
  go_enter Try.func71, Try.ntmps71
  go_wp2_with fail
  exact bodyPost_ret (v := .agg #[.int .u64 q, .int .u64 r, .int .i64 0]) (by simp [results, Try.results71, go_sem]) rfl ⟨rfl, below1 _ _⟩
set_option maxHeartbeats 4000000 in
set_option maxRecDepth 100000 in
theorem divu64_z {a b : Int} (g : b = 0) : Ct 72 #[.int .u64 a, .int .u64 b] (.agg #[.int .u64 0, .int .u64 0, .int .i64 2]) := by
  refine hide (fun W => ?_)
  go_enter Try.func72, Try.ntmps72
  go_wp2_with fail
  exact bodyPost_ret (v := .agg #[.int .u64 0, .int .u64 0, .int .i64 2]) (by simp [results, Try.results72, go_sem]) rfl ⟨rfl, below1 _ _⟩
set_option maxHeartbeats 4000000 in
set_option maxRecDepth 100000 in
theorem divu64_p {a b q r : Int} (a0 : 0 ≤ a) (a1 : a < 18446744073709551616) (b0 : 0 ≤ b) (b1 : b < 18446744073709551616) (g : ¬ b = 0) (hq : a / b = q) (hr : a % b = r) : Ct 72 #[.int .u64 a, .int .u64 b] (.agg #[.int .u64 q, .int .u64 r, .int .i64 0]) := by
  refine hide (fun W => ?_)
  go_enter Try.func72, Try.ntmps72
  go_wp2_with fail
  exact bodyPost_ret (v := .agg #[.int .u64 q, .int .u64 r, .int .i64 0]) (by simp [results, Try.results72, go_sem]) rfl ⟨rfl, below1 _ _⟩
set_option maxHeartbeats 4000000 in
set_option maxRecDepth 100000 in
theorem divs32_z {a b : Int} (g : b = 0) : Ct 74 #[.int .i32 a, .int .i32 b] (.agg #[.int .u64 0, .int .u64 0, .int .i64 2]) := by
  refine hide (fun W => ?_)
  go_enter Try.func74, Try.ntmps74
  go_wp2_with fail
  exact bodyPost_ret (v := .agg #[.int .u64 0, .int .u64 0, .int .i64 2]) (by simp [results, Try.results74, go_sem]) rfl ⟨rfl, below1 _ _⟩
set_option maxHeartbeats 4000000 in
set_option maxRecDepth 100000 in
theorem divs32_p {a b q r Q : Int} (a0 : 0 ≤ a) (g : ¬ b = 0) (hq : IntKind.i32.wrap (a.tdiv b) = q) (hQ : IntKind.u64.wrap q = Q) (hr : IntKind.u64.wrap (a % b) = r) : Ct 74 #[.int .i32 a, .int .i32 b] (.agg #[.int .u64 Q, .int .u64 r, .int .i64 0]) := by
  refine hide (fun W => ?_)
  go_enter Try.func74, Try.ntmps74
  go_wp2_with fail
  exact bodyPost_ret (v := .agg #[.int .u64 Q, .int .u64 r, .int .i64 0]) (by simp [results, Try.results74, go_sem]) rfl ⟨rfl, below1 _ _⟩
set_option maxHeartbeats 4000000 in
set_option maxRecDepth 100000 in
theorem divs32_m {a b q r Q : Int} (a0 : a < 0) (b0 : 0 ≤ b) (g : ¬ b = 0) (hq : IntKind.i32.wrap (a.tdiv b) = q) (hQ : IntKind.u64.wrap q = Q) (hr : IntKind.u64.wrap (a.tmod b) = r) : Ct 74 #[.int .i32 a, .int .i32 b] (.agg #[.int .u64 Q, .int .u64 r, .int .i64 0]) := by
  refine hide (fun W => ?_)
  go_enter Try.func74, Try.ntmps74
  go_wp2_with fail
  exact bodyPost_ret (v := .agg #[.int .u64 Q, .int .u64 r, .int .i64 0]) (by simp [results, Try.results74, go_sem]) rfl ⟨rfl, below1 _ _⟩
set_option maxHeartbeats 4000000 in
set_option maxRecDepth 100000 in
theorem divs32_n {a b q r Q : Int} (a0 : a < 0) (b0 : b < 0) (hq : IntKind.i32.wrap (a.tdiv b) = q) (q0 : 0 ≤ q) (hQ : IntKind.u64.wrap q = Q) (hr : IntKind.u64.wrap (a.tmod b) = r) : Ct 74 #[.int .i32 a, .int .i32 b] (.agg #[.int .u64 Q, .int .u64 r, .int .i64 0]) := by
  refine hide (fun W => ?_)
  go_enter Try.func74, Try.ntmps74
  go_wp2_with fail
  exact bodyPost_ret (v := .agg #[.int .u64 Q, .int .u64 r, .int .i64 0]) (by simp [results, Try.results74, go_sem]) rfl ⟨rfl, below1 _ _⟩
set_option maxHeartbeats 4000000 in
set_option maxRecDepth 100000 in
theorem divs32_o {a b q : Int} (a0 : a < 0) (b0 : b < 0) (hq : IntKind.i32.wrap (a.tdiv b) = q) (q0 : q < 0) : Ct 74 #[.int .i32 a, .int .i32 b] (.agg #[.int .u64 0, .int .u64 0, .int .i64 3]) := by
  refine hide (fun W => ?_)
  go_enter Try.func74, Try.ntmps74
  go_wp2_with fail
  exact bodyPost_ret (v := .agg #[.int .u64 0, .int .u64 0, .int .i64 3]) (by simp [results, Try.results74, go_sem]) rfl ⟨rfl, below1 _ _⟩
set_option maxHeartbeats 4000000 in
set_option maxRecDepth 100000 in
theorem divs64_z {a b : Int} (g : b = 0) : Ct 75 #[.int .i64 a, .int .i64 b] (.agg #[.int .u64 0, .int .u64 0, .int .i64 2]) := by
  refine hide (fun W => ?_)
  go_enter Try.func75, Try.ntmps75
  go_wp2_with fail
  exact bodyPost_ret (v := .agg #[.int .u64 0, .int .u64 0, .int .i64 2]) (by simp [results, Try.results75, go_sem]) rfl ⟨rfl, below1 _ _⟩
set_option maxHeartbeats 4000000 in
set_option maxRecDepth 100000 in
theorem divs64_p {a b q r Q : Int} (a0 : 0 ≤ a) (g : ¬ b = 0) (hq : IntKind.i64.wrap (a.tdiv b) = q) (hQ : IntKind.u64.wrap q = Q) (hr : IntKind.u64.wrap (a % b) = r) : Ct 75 #[.int .i64 a, .int .i64 b] (.agg #[.int .u64 Q, .int .u64 r, .int .i64 0]) := by
  refine hide (fun W => ?_)
  go_enter Try.func75, Try.ntmps75
  go_wp2_with fail
  exact bodyPost_ret (v := .agg #[.int .u64 Q, .int .u64 r, .int .i64 0]) (by simp [results, Try.results75, go_sem]) rfl ⟨rfl, below1 _ _⟩
set_option maxHeartbeats 4000000 in
set_option maxRecDepth 100000 in
theorem divs64_m {a b q r Q : Int} (a0 : a < 0) (b0 : 0 ≤ b) (g : ¬ b = 0) (hq : IntKind.i64.wrap (a.tdiv b) = q) (hQ : IntKind.u64.wrap q = Q) (hr : IntKind.u64.wrap (a.tmod b) = r) : Ct 75 #[.int .i64 a, .int .i64 b] (.agg #[.int .u64 Q, .int .u64 r, .int .i64 0]) := by
  refine hide (fun W => ?_)
  go_enter Try.func75, Try.ntmps75
  go_wp2_with fail
  exact bodyPost_ret (v := .agg #[.int .u64 Q, .int .u64 r, .int .i64 0]) (by simp [results, Try.results75, go_sem]) rfl ⟨rfl, below1 _ _⟩
set_option maxHeartbeats 4000000 in
set_option maxRecDepth 100000 in
theorem divs64_n {a b q r Q : Int} (a0 : a < 0) (b0 : b < 0) (hq : IntKind.i64.wrap (a.tdiv b) = q) (q0 : 0 ≤ q) (hQ : IntKind.u64.wrap q = Q) (hr : IntKind.u64.wrap (a.tmod b) = r) : Ct 75 #[.int .i64 a, .int .i64 b] (.agg #[.int .u64 Q, .int .u64 r, .int .i64 0]) := by
  refine hide (fun W => ?_)
  go_enter Try.func75, Try.ntmps75
  go_wp2_with fail
  exact bodyPost_ret (v := .agg #[.int .u64 Q, .int .u64 r, .int .i64 0]) (by simp [results, Try.results75, go_sem]) rfl ⟨rfl, below1 _ _⟩
set_option maxHeartbeats 4000000 in
set_option maxRecDepth 100000 in
theorem divs64_o {a b q : Int} (a0 : a < 0) (b0 : b < 0) (hq : IntKind.i64.wrap (a.tdiv b) = q) (q0 : q < 0) : Ct 75 #[.int .i64 a, .int .i64 b] (.agg #[.int .u64 0, .int .u64 0, .int .i64 3]) := by
  refine hide (fun W => ?_)
  go_enter Try.func75, Try.ntmps75
  go_wp2_with fail
  exact bodyPost_ret (v := .agg #[.int .u64 0, .int .u64 0, .int .i64 3]) (by simp [results, Try.results75, go_sem]) rfl ⟨rfl, below1 _ _⟩
set_option maxHeartbeats 4000000 in
set_option maxRecDepth 100000 in
theorem shifts_l {w b j k r : Int} (h1 : IntKind.i64.wrap (w - 1) = j) (h2 : IntKind.u64.wrap j = k) (h3 : bits .and .u64 b k = r) : Ct 53 #[.int .i64 w, .int .u64 b] (.int .u64 r) := by
  refine hide (fun W => ?_)
  have HB := hide (Below.refl W.heap.size W)
  go_enter Try.func53, Try.ntmps53
  go_wp2_with fail
  go_ret
  exact ⟨rfl, unhide HB⟩
set_option maxHeartbeats 4000000 in
set_option maxRecDepth 100000 in
theorem ones_l {a a2 p q x1 a4 p' q' x2 a16 s x3 a8 x4 b16 x5 c32 x6 r1 r : Int} (h1 : a / 2 = a2) (h2 : bits .and .u64 a2 6148914691236517205 = p) (h3 : bits .and .u64 a 6148914691236517205 = q) (h4 : IntKind.u64.wrap (p + q) = x1)
   (h5 : x1 / 4 = a4) (h6 : bits .and .u64 a4 3689348814741910323 = p') (h7 : bits .and .u64 x1 3689348814741910323 = q') (h8 : IntKind.u64.wrap (p' + q') = x2)
   (h9 : x2 / 16 = a16) (ha : IntKind.u64.wrap (a16 + x2) = s) (hb : bits .and .u64 s 1085102592571150095 = x3)
   (hc : x3 / 256 = a8) (hd : IntKind.u64.wrap (x3 + a8) = x4) (he : x4 / 65536 = b16) (hf : IntKind.u64.wrap (x4 + b16) = x5) (hg : x5 / 4294967296 = c32) (hh : IntKind.u64.wrap (x5 + c32) = x6) (hi : IntKind.i64.wrap x6 = r1) (hj : bits .and .i64 r1 127 = r) : Ct 66 #[.int .u64 a] (.int .i64 r) := by
  refine hide (fun W => ?_)
  have HB := hide (Below.refl W.heap.size W)
  go_enter Try.func66, Try.ntmps66
  go_wp2_with fail
  go_ret
  exact ⟨rfl, unhide HB⟩
end Go.Proofs.Ytjlegmgpgfjciaa
