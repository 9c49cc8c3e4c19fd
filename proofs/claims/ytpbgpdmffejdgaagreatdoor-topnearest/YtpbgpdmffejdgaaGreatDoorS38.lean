/- InA, OrdB, OrdC, OrdD, OrdE, OrdFw, WhM, WhN, WhO, OrdK, ChM. -/
import Derived.Test.YtpbgpdmffejdgaaGreatDoorS01
import Derived.Test.YtpbgpdmffejdgaaGreatDoorS24
import Derived.Test.YtpbgpdmffejdgaaGreatDoorS28
import Derived.Test.YtpbgpdmffejdgaaGreatDoorS29
import Derived.Test.YtpbgpdmffejdgaaGreatDoorS30
import Derived.Test.YtpbgpdmffejdgaaGreatDoorS31
import Derived.Test.YtpbgpdmffejdgaaGreatDoorS32
import Derived.Test.YtpbgpdmffejdgaaGreatDoorS34
import Derived.Test.YtpbgpdmffejdgaaGreatDoorS35
import Derived.Test.YtpbgpdmffejdgaaGreatDoorS36
import Derived.Laws.BitsAllLaws
namespace Go.Proofs.YtpbgpdmffejdgaaGreatDoor
open Go.RowKit

set_option maxHeartbeats 4000000 in
set_option maxRecDepth 100000 in
theorem sum32_l {a b : Int}  : Ct 225 #[.int .u32 a, .int .u32 b] (.int .u64 ((a + b) % 4294967296)) := by
  refine hide (fun W => ?_)
  have HB := hide (Below.refl W.heap.size W)
  go_enter Tryz.func225, Tryz.ntmps225
  go_wp2_with fail
  go_ret
  exact ⟨by first | rfl | simp, unhide HB⟩
set_option maxHeartbeats 4000000 in
set_option maxRecDepth 100000 in
theorem sum64_l {a b : Int}  : Ct 226 #[.int .u64 a, .int .u64 b] (.int .u64 (IntKind.u64.wrap (a + b))) := by
  refine hide (fun W => ?_)
  have HB := hide (Below.refl W.heap.size W)
  go_enter Tryz.func226, Tryz.ntmps226
  go_wp2_with fail
  go_ret
  exact ⟨by first | rfl | simp, unhide HB⟩
set_option maxHeartbeats 4000000 in
set_option maxRecDepth 100000 in
theorem dif32_l {a b : Int}  : Ct 227 #[.int .u32 a, .int .u32 b] (.int .u64 ((a - b) % 4294967296)) := by
  refine hide (fun W => ?_)
  have HB := hide (Below.refl W.heap.size W)
  go_enter Tryz.func227, Tryz.ntmps227
  go_wp2_with fail
  go_ret
  exact ⟨by first | rfl | simp, unhide HB⟩
set_option maxHeartbeats 4000000 in
set_option maxRecDepth 100000 in
theorem dif64_l {a b : Int}  : Ct 228 #[.int .u64 a, .int .u64 b] (.int .u64 (IntKind.u64.wrap (a - b))) := by
  refine hide (fun W => ?_)
  have HB := hide (Below.refl W.heap.size W)
  go_enter Tryz.func228, Tryz.ntmps228
  go_wp2_with fail
  go_ret
  exact ⟨by first | rfl | simp, unhide HB⟩
set_option maxHeartbeats 4000000 in
set_option maxRecDepth 100000 in
theorem pro32_l {a b : Int}  : Ct 229 #[.int .u32 a, .int .u32 b] (.int .u64 ((a * b) % 4294967296)) := by
  refine hide (fun W => ?_)
  have HB := hide (Below.refl W.heap.size W)
  go_enter Tryz.func229, Tryz.ntmps229
  go_wp2_with fail
  go_ret
  exact ⟨by first | rfl | simp, unhide HB⟩
set_option maxHeartbeats 4000000 in
set_option maxRecDepth 100000 in
theorem pro64_l {a b : Int}  : Ct 230 #[.int .u64 a, .int .u64 b] (.int .u64 (IntKind.u64.wrap (a * b))) := by
  refine hide (fun W => ?_)
  have HB := hide (Below.refl W.heap.size W)
  go_enter Tryz.func230, Tryz.ntmps230
  go_wp2_with fail
  go_ret
  exact ⟨by first | rfl | simp, unhide HB⟩
set_option maxHeartbeats 4000000 in
set_option maxRecDepth 100000 in
theorem lef32_l {a b : Int} (b0 : 0 ≤ b) (b1 : b < 32) : Ct 214 #[.int .u32 a, .int .u32 b] (.int .u64 ((a * 2 ^ b.toNat) % 4294967296)) := by
  refine hide (fun W => ?_)
  have HB := hide (Below.refl W.heap.size W)
  go_enter Tryz.func214, Tryz.ntmps214
  go_wp2_with fail
  go_ret
  exact ⟨by first | rfl | simp, unhide HB⟩
set_option maxHeartbeats 4000000 in
set_option maxRecDepth 100000 in
theorem lef64_l {a b : Int} (b0 : 0 ≤ b) (b1 : b < 64) : Ct 215 #[.int .u64 a, .int .u64 b] (.int .u64 (IntKind.u64.wrap (a * 2 ^ b.toNat))) := by
  refine hide (fun W => ?_)
  have HB := hide (Below.refl W.heap.size W)
  go_enter Tryz.func215, Tryz.ntmps215
  go_wp2_with fail
  go_ret
  exact ⟨by first | rfl | simp, unhide HB⟩
set_option maxHeartbeats 4000000 in
set_option maxRecDepth 100000 in
theorem rig32_l {a b : Int} (b0 : 0 ≤ b) (b1 : b < 32) : Ct 219 #[.int .u32 a, .int .u32 b] (.int .u64 (IntKind.u64.wrap (a / 2 ^ b.toNat))) := by
  refine hide (fun W => ?_)
  have HB := hide (Below.refl W.heap.size W)
  go_enter Tryz.func219, Tryz.ntmps219
  go_wp2_with fail
  go_ret
  exact ⟨by first | rfl | simp, unhide HB⟩
set_option maxHeartbeats 4000000 in
set_option maxRecDepth 100000 in
theorem rig64_l {a b : Int} (b0 : 0 ≤ b) (b1 : b < 64) : Ct 220 #[.int .u64 a, .int .u64 b] (.int .u64 (a / 2 ^ b.toNat)) := by
  refine hide (fun W => ?_)
  have HB := hide (Below.refl W.heap.size W)
  go_enter Tryz.func220, Tryz.ntmps220
  go_wp2_with fail
  go_ret
  exact ⟨by first | rfl | simp, unhide HB⟩
set_option maxHeartbeats 4000000 in
set_option maxRecDepth 100000 in
theorem sar32_l {a b : Int} (b0 : 0 ≤ b) (b1 : b < 32) : Ct 217 #[.int .i32 a, .int .i32 b] (.int .u64 (IntKind.u64.wrap (a / 2 ^ b.toNat))) := by
  refine hide (fun W => ?_)
  have HB := hide (Below.refl W.heap.size W)
  go_enter Tryz.func217, Tryz.ntmps217
  go_wp2_with fail
  go_ret
  exact ⟨by first | rfl | simp, unhide HB⟩
set_option maxHeartbeats 4000000 in
set_option maxRecDepth 100000 in
theorem sar64_l {a b : Int} (b0 : 0 ≤ b) (b1 : b < 64) : Ct 218 #[.int .i64 a, .int .i64 b] (.int .u64 (IntKind.u64.wrap (a / 2 ^ b.toNat))) := by
  refine hide (fun W => ?_)
  have HB := hide (Below.refl W.heap.size W)
  go_enter Tryz.func218, Tryz.ntmps218
  go_wp2_with fail
  go_ret
  exact ⟨by first | rfl | simp, unhide HB⟩
set_option maxHeartbeats 4000000 in
set_option maxRecDepth 100000 in
theorem ltu32_l {a b : Int}  : Ct 127 #[.int .u32 a, .int .u32 b] (.bool (decide (a < b))) := by
  refine hide (fun W => ?_)
  have HB := hide (Below.refl W.heap.size W)
  go_enter Tryz.func127, Tryz.ntmps127
  go_wp2_with fail
  go_ret
  exact ⟨by first | rfl | simp, unhide HB⟩
set_option maxHeartbeats 4000000 in
set_option maxRecDepth 100000 in
theorem ltu64_l {a b : Int}  : Ct 128 #[.int .u64 a, .int .u64 b] (.bool (decide (a < b))) := by
  refine hide (fun W => ?_)
  have HB := hide (Below.refl W.heap.size W)
  go_enter Tryz.func128, Tryz.ntmps128
  go_wp2_with fail
  go_ret
  exact ⟨by first | rfl | simp, unhide HB⟩
set_option maxHeartbeats 4000000 in
set_option maxRecDepth 100000 in
theorem divu32_z {a b : Int} (g : b = 0) : Ct 210 #[.int .u32 a, .int .u32 b] (.agg #[.int .u64 0, .int .u64 0, .int .i64 2]) := by
  refine hide (fun W => ?_)
  go_enter Tryz.func210, Tryz.ntmps210
  go_wp2_with fail
  exact bodyPost_ret (v := .agg #[.int .u64 0, .int .u64 0, .int .i64 2]) (by simp [results, Tryz.results210, go_sem]) rfl ⟨rfl, below1 _ _⟩
set_option maxHeartbeats 4000000 in
set_option maxRecDepth 100000 in
theorem divu32_p {a b q r : Int} (a0 : 0 ≤ a) (a1 : a < 4294967296) (b0 : 0 ≤ b) (b1 : b < 4294967296) (g : ¬ b = 0) (hq : a / b = q) (hr : a % b = r) (hQ : IntKind.u64.wrap q = q) (hR : IntKind.u64.wrap r = r) : Ct 210 #[.int .u32 a, .int .u32 b] (.agg #[.int .u64 q, .int .u64 r, .int .i64 0]) := by
  refine hide (fun W => ?_)
  go_enter Tryz.func210, Tryz.ntmps210
  go_wp2_with fail
  exact bodyPost_ret (v := .agg #[.int .u64 q, .int .u64 r, .int .i64 0]) (by simp [results, Tryz.results210, go_sem]) rfl ⟨rfl, below1 _ _⟩
set_option maxHeartbeats 4000000 in
set_option maxRecDepth 100000 in
theorem divu64_z {a b : Int} (g : b = 0) : Ct 211 #[.int .u64 a, .int .u64 b] (.agg #[.int .u64 0, .int .u64 0, .int .i64 2]) := by
  refine hide (fun W => ?_)
  go_enter Tryz.func211, Tryz.ntmps211
  go_wp2_with fail
  exact bodyPost_ret (v := .agg #[.int .u64 0, .int .u64 0, .int .i64 2]) (by simp [results, Tryz.results211, go_sem]) rfl ⟨rfl, below1 _ _⟩
set_option maxHeartbeats 4000000 in
set_option maxRecDepth 100000 in
theorem divu64_p {a b q r : Int} (a0 : 0 ≤ a) (a1 : a < 18446744073709551616) (b0 : 0 ≤ b) (b1 : b < 18446744073709551616) (g : ¬ b = 0) (hq : a / b = q) (hr : a % b = r) : Ct 211 #[.int .u64 a, .int .u64 b] (.agg #[.int .u64 q, .int .u64 r, .int .i64 0]) := by
  refine hide (fun W => ?_)
  go_enter Tryz.func211, Tryz.ntmps211
  go_wp2_with fail
  exact bodyPost_ret (v := .agg #[.int .u64 q, .int .u64 r, .int .i64 0]) (by simp [results, Tryz.results211, go_sem]) rfl ⟨rfl, below1 _ _⟩
set_option maxHeartbeats 4000000 in
set_option maxRecDepth 100000 in
theorem divs32_z {a b : Int} (g : b = 0) : Ct 207 #[.int .i32 a, .int .i32 b] (.agg #[.int .u64 0, .int .u64 0, .int .i64 2]) := by
  refine hide (fun W => ?_)
  go_enter Tryz.func207, Tryz.ntmps207
  go_wp2_with fail
  exact bodyPost_ret (v := .agg #[.int .u64 0, .int .u64 0, .int .i64 2]) (by simp [results, Tryz.results207, go_sem]) rfl ⟨rfl, below1 _ _⟩
set_option maxHeartbeats 4000000 in
set_option maxRecDepth 100000 in
theorem divs32_p {a b q r Q : Int} (a0 : 0 ≤ a) (g : ¬ b = 0) (hq : IntKind.i32.wrap (a.tdiv b) = q) (hQ : IntKind.u64.wrap q = Q) (hr : IntKind.u64.wrap (a % b) = r) : Ct 207 #[.int .i32 a, .int .i32 b] (.agg #[.int .u64 Q, .int .u64 r, .int .i64 0]) := by
  refine hide (fun W => ?_)
  go_enter Tryz.func207, Tryz.ntmps207
  go_wp2_with fail
  exact bodyPost_ret (v := .agg #[.int .u64 Q, .int .u64 r, .int .i64 0]) (by simp [results, Tryz.results207, go_sem]) rfl ⟨rfl, below1 _ _⟩
set_option maxHeartbeats 4000000 in
set_option maxRecDepth 100000 in
theorem divs32_m {a b q r Q : Int} (a0 : a < 0) (b0 : 0 ≤ b) (g : ¬ b = 0) (hq : IntKind.i32.wrap (a.tdiv b) = q) (hQ : IntKind.u64.wrap q = Q) (hr : IntKind.u64.wrap (a.tmod b) = r) : Ct 207 #[.int .i32 a, .int .i32 b] (.agg #[.int .u64 Q, .int .u64 r, .int .i64 0]) := by
  refine hide (fun W => ?_)
  go_enter Tryz.func207, Tryz.ntmps207
  go_wp2_with fail
  exact bodyPost_ret (v := .agg #[.int .u64 Q, .int .u64 r, .int .i64 0]) (by simp [results, Tryz.results207, go_sem]) rfl ⟨rfl, below1 _ _⟩
set_option maxHeartbeats 4000000 in
set_option maxRecDepth 100000 in
theorem divs32_n {a b q r Q : Int} (a0 : a < 0) (b0 : b < 0) (hq : IntKind.i32.wrap (a.tdiv b) = q) (q0 : 0 ≤ q) (hQ : IntKind.u64.wrap q = Q) (hr : IntKind.u64.wrap (a.tmod b) = r) : Ct 207 #[.int .i32 a, .int .i32 b] (.agg #[.int .u64 Q, .int .u64 r, .int .i64 0]) := by
  refine hide (fun W => ?_)
  go_enter Tryz.func207, Tryz.ntmps207
  go_wp2_with fail
  exact bodyPost_ret (v := .agg #[.int .u64 Q, .int .u64 r, .int .i64 0]) (by simp [results, Tryz.results207, go_sem]) rfl ⟨rfl, below1 _ _⟩
set_option maxHeartbeats 4000000 in
set_option maxRecDepth 100000 in
theorem divs32_o {a b q : Int} (a0 : a < 0) (b0 : b < 0) (hq : IntKind.i32.wrap (a.tdiv b) = q) (q0 : q < 0) : Ct 207 #[.int .i32 a, .int .i32 b] (.agg #[.int .u64 0, .int .u64 0, .int .i64 3]) := by
  refine hide (fun W => ?_)
  go_enter Tryz.func207, Tryz.ntmps207
  go_wp2_with fail
  exact bodyPost_ret (v := .agg #[.int .u64 0, .int .u64 0, .int .i64 3]) (by simp [results, Tryz.results207, go_sem]) rfl ⟨rfl, below1 _ _⟩
set_option maxHeartbeats 4000000 in
set_option maxRecDepth 100000 in
theorem divs64_z {a b : Int} (g : b = 0) : Ct 208 #[.int .i64 a, .int .i64 b] (.agg #[.int .u64 0, .int .u64 0, .int .i64 2]) := by
  refine hide (fun W => ?_)
  go_enter Tryz.func208, Tryz.ntmps208
  go_wp2_with fail
  exact bodyPost_ret (v := .agg #[.int .u64 0, .int .u64 0, .int .i64 2]) (by simp [results, Tryz.results208, go_sem]) rfl ⟨rfl, below1 _ _⟩
set_option maxHeartbeats 4000000 in
set_option maxRecDepth 100000 in
theorem divs64_p {a b q r Q : Int} (a0 : 0 ≤ a) (g : ¬ b = 0) (hq : IntKind.i64.wrap (a.tdiv b) = q) (hQ : IntKind.u64.wrap q = Q) (hr : IntKind.u64.wrap (a % b) = r) : Ct 208 #[.int .i64 a, .int .i64 b] (.agg #[.int .u64 Q, .int .u64 r, .int .i64 0]) := by
  refine hide (fun W => ?_)
  go_enter Tryz.func208, Tryz.ntmps208
  go_wp2_with fail
  exact bodyPost_ret (v := .agg #[.int .u64 Q, .int .u64 r, .int .i64 0]) (by simp [results, Tryz.results208, go_sem]) rfl ⟨rfl, below1 _ _⟩
set_option maxHeartbeats 4000000 in
set_option maxRecDepth 100000 in
theorem divs64_m {a b q r Q : Int} (a0 : a < 0) (b0 : 0 ≤ b) (g : ¬ b = 0) (hq : IntKind.i64.wrap (a.tdiv b) = q) (hQ : IntKind.u64.wrap q = Q) (hr : IntKind.u64.wrap (a.tmod b) = r) : Ct 208 #[.int .i64 a, .int .i64 b] (.agg #[.int .u64 Q, .int .u64 r, .int .i64 0]) := by
  refine hide (fun W => ?_)
  go_enter Tryz.func208, Tryz.ntmps208
  go_wp2_with fail
  exact bodyPost_ret (v := .agg #[.int .u64 Q, .int .u64 r, .int .i64 0]) (by simp [results, Tryz.results208, go_sem]) rfl ⟨rfl, below1 _ _⟩
set_option maxHeartbeats 4000000 in
set_option maxRecDepth 100000 in
theorem divs64_n {a b q r Q : Int} (a0 : a < 0) (b0 : b < 0) (hq : IntKind.i64.wrap (a.tdiv b) = q) (q0 : 0 ≤ q) (hQ : IntKind.u64.wrap q = Q) (hr : IntKind.u64.wrap (a.tmod b) = r) : Ct 208 #[.int .i64 a, .int .i64 b] (.agg #[.int .u64 Q, .int .u64 r, .int .i64 0]) := by
  refine hide (fun W => ?_)
  go_enter Tryz.func208, Tryz.ntmps208
  go_wp2_with fail
  exact bodyPost_ret (v := .agg #[.int .u64 Q, .int .u64 r, .int .i64 0]) (by simp [results, Tryz.results208, go_sem]) rfl ⟨rfl, below1 _ _⟩
set_option maxHeartbeats 4000000 in
set_option maxRecDepth 100000 in
theorem divs64_o {a b q : Int} (a0 : a < 0) (b0 : b < 0) (hq : IntKind.i64.wrap (a.tdiv b) = q) (q0 : q < 0) : Ct 208 #[.int .i64 a, .int .i64 b] (.agg #[.int .u64 0, .int .u64 0, .int .i64 3]) := by
  refine hide (fun W => ?_)
  go_enter Tryz.func208, Tryz.ntmps208
  go_wp2_with fail
  exact bodyPost_ret (v := .agg #[.int .u64 0, .int .u64 0, .int .i64 3]) (by simp [results, Tryz.results208, go_sem]) rfl ⟨rfl, below1 _ _⟩
set_option maxHeartbeats 4000000 in
set_option maxRecDepth 100000 in
theorem shifts_l {w b j k r : Int} (h1 : IntKind.i64.wrap (w - 1) = j) (h2 : IntKind.u64.wrap j = k) (h3 : bits .and .u64 b k = r) : Ct 213 #[.int .i64 w, .int .u64 b] (.int .u64 r) := by
  refine hide (fun W => ?_)
  have HB := hide (Below.refl W.heap.size W)
  go_enter Tryz.func213, Tryz.ntmps213
  go_wp2_with fail
  go_ret
  exact ⟨rfl, unhide HB⟩
set_option maxHeartbeats 4000000 in
set_option maxRecDepth 100000 in
theorem ones_l {a a2 p q x1 a4 p' q' x2 a16 s x3 a8 x4 b16 x5 c32 x6 r1 r : Int} (h1 : a / 2 = a2) (h2 : bits .and .u64 a2 6148914691236517205 = p) (h3 : bits .and .u64 a 6148914691236517205 = q) (h4 : IntKind.u64.wrap (p + q) = x1)
   (h5 : x1 / 4 = a4) (h6 : bits .and .u64 a4 3689348814741910323 = p') (h7 : bits .and .u64 x1 3689348814741910323 = q') (h8 : IntKind.u64.wrap (p' + q') = x2)
   (h9 : x2 / 16 = a16) (ha : IntKind.u64.wrap (a16 + x2) = s) (hb : bits .and .u64 s 1085102592571150095 = x3)
   (hc : x3 / 256 = a8) (hd : IntKind.u64.wrap (x3 + a8) = x4) (he : x4 / 65536 = b16) (hf : IntKind.u64.wrap (x4 + b16) = x5) (hg : x5 / 4294967296 = c32) (hh : IntKind.u64.wrap (x5 + c32) = x6) (hi : IntKind.i64.wrap x6 = r1) (hj : bits .and .i64 r1 127 = r) : Ct 224 #[.int .u64 a] (.int .i64 r) := by
  refine hide (fun W => ?_)
  have HB := hide (Below.refl W.heap.size W)
  go_enter Tryz.func224, Tryz.ntmps224
  go_wp2_with fail
  go_ret
  exact ⟨rfl, unhide HB⟩
set_option maxHeartbeats 4000000 in
set_option maxRecDepth 100000 in
theorem lts32_l {a b : Int}  : Ct 124 #[.int .i32 a, .int .i32 b] (.bool (decide (a < b))) := by
  refine hide (fun W => ?_)
  have HB := hide (Below.refl W.heap.size W)
  go_enter Tryz.func124, Tryz.ntmps124
  go_wp2_with fail
  go_ret
  exact ⟨by first | rfl | simp, unhide HB⟩
set_option maxHeartbeats 4000000 in
set_option maxRecDepth 100000 in
theorem lts64_l {a b : Int}  : Ct 125 #[.int .i64 a, .int .i64 b] (.bool (decide (a < b))) := by
  refine hide (fun W => ?_)
  have HB := hide (Below.refl W.heap.size W)
  go_enter Tryz.func125, Tryz.ntmps125
  go_wp2_with fail
  go_ret
  exact ⟨by first | rfl | simp, unhide HB⟩
end Go.Proofs.YtpbgpdmffejdgaaGreatDoor
namespace Go.Proofs.YtpbgpdmffejdgaaGreatDoor
open Go.RowKit
open Go.Proofs.YtpbgpdmffejdgaaGreatDoor.W

set_option maxRecDepth 100000 in
set_option maxHeartbeats 2000000 in
theorem eq_c {x y : Int} (W : World)  :
    Calls Tryz.prog 130 #[.int .i64 x, .int .i64 y] W fun r W' => r = .returned (.bool (x == y)) ∧ Below W.heap.size W W' := by
  go_enter Tryz.func130, Tryz.ntmps130
  go_wp2_with fail
  go_ret
  exact ⟨by simp, Below.refl _ _⟩
set_option maxRecDepth 100000 in
set_option maxHeartbeats 2000000 in
theorem lt_c {x y : Int} (W : World)  :
    Calls Tryz.prog 132 #[.int .i64 x, .int .i64 y] W fun r W' => r = .returned (.bool (decide (x < y))) ∧ Below W.heap.size W W' := by
  go_enter Tryz.func132, Tryz.ntmps132
  go_wp2_with fail
  go_ret
  exact ⟨by simp, Below.refl _ _⟩
set_option maxRecDepth 100000 in
set_option maxHeartbeats 2000000 in
theorem gt_c {x y : Int} (W : World)  :
    Calls Tryz.prog 133 #[.int .i64 x, .int .i64 y] W fun r W' => r = .returned (.bool (decide (y < x))) ∧ Below W.heap.size W W' := by
  go_enter Tryz.func133, Tryz.ntmps133
  go_wp2_with fail
  go_ret
  exact ⟨by simp, Below.refl _ _⟩
set_option maxRecDepth 100000 in
set_option maxHeartbeats 2000000 in
theorem le_c {x y : Int} (W : World)  :
    Calls Tryz.prog 134 #[.int .i64 x, .int .i64 y] W fun r W' => r = .returned (.bool (decide (x ≤ y))) ∧ Below W.heap.size W W' := by
  go_enter Tryz.func134, Tryz.ntmps134
  go_wp2_with fail
  go_ret
  exact ⟨by simp, Below.refl _ _⟩
set_option maxRecDepth 100000 in
set_option maxHeartbeats 2000000 in
theorem ge_c {x y : Int} (W : World)  :
    Calls Tryz.prog 135 #[.int .i64 x, .int .i64 y] W fun r W' => r = .returned (.bool (decide (y ≤ x))) ∧ Below W.heap.size W W' := by
  go_enter Tryz.func135, Tryz.ntmps135
  go_wp2_with fail
  go_ret
  exact ⟨by simp, Below.refl _ _⟩
set_option maxRecDepth 100000 in
set_option maxHeartbeats 2000000 in
theorem ask_t_eq {w x y a b : Int} {t : Bool} (W : World) (H1 : Ct 205 #[.int .i64 w, .int .u64 x] (.tuple #[.int .i64 a, .bool true])) (H2 : Ct 205 #[.int .i64 w, .int .u64 y] (.tuple #[.int .i64 b, .bool true])) (H3 : Ct 130 #[.int .i64 a, .int .i64 b] (.bool t)) :
    Calls Tryz.prog 129 #[.int .i64 w, .int .u64 x, .int .u64 y, .func (.func 130) #[] #[]] W fun r W' => r = .returned (.bool t) ∧ Below W.heap.size W W' := by
  go_enter Tryz.func129, Tryz.ntmps129
  go_wp2_with fail
  refine (unhide H1 _).mono ?_
  rintro _ w1 ⟨rfl, hb⟩
  have HB := hide hb
  clear hb
  go_wp2_with fail
  refine (unhide H2 _).mono ?_
  rintro _ w2 ⟨rfl, hb⟩
  have HB := hide (bthen (unhide HB) hb)
  clear hb
  go_wp2_with fail
  refine (unhide H3 _).mono ?_
  rintro _ w3 ⟨rfl, hb⟩
  have HB := hide (bthen (unhide HB) hb)
  clear hb
  go_wp2_with fail
  go_ret
  exact ⟨rfl, unhide HB⟩
set_option maxRecDepth 100000 in
set_option maxHeartbeats 2000000 in
theorem ask_t_lt {w x y a b : Int} {t : Bool} (W : World) (H1 : Ct 205 #[.int .i64 w, .int .u64 x] (.tuple #[.int .i64 a, .bool true])) (H2 : Ct 205 #[.int .i64 w, .int .u64 y] (.tuple #[.int .i64 b, .bool true])) (H3 : Ct 132 #[.int .i64 a, .int .i64 b] (.bool t)) :
    Calls Tryz.prog 129 #[.int .i64 w, .int .u64 x, .int .u64 y, .func (.func 132) #[] #[]] W fun r W' => r = .returned (.bool t) ∧ Below W.heap.size W W' := by
  go_enter Tryz.func129, Tryz.ntmps129
  go_wp2_with fail
  refine (unhide H1 _).mono ?_
  rintro _ w1 ⟨rfl, hb⟩
  have HB := hide hb
  clear hb
  go_wp2_with fail
  refine (unhide H2 _).mono ?_
  rintro _ w2 ⟨rfl, hb⟩
  have HB := hide (bthen (unhide HB) hb)
  clear hb
  go_wp2_with fail
  refine (unhide H3 _).mono ?_
  rintro _ w3 ⟨rfl, hb⟩
  have HB := hide (bthen (unhide HB) hb)
  clear hb
  go_wp2_with fail
  go_ret
  exact ⟨rfl, unhide HB⟩
set_option maxRecDepth 100000 in
set_option maxHeartbeats 2000000 in
theorem ask_t_gt {w x y a b : Int} {t : Bool} (W : World) (H1 : Ct 205 #[.int .i64 w, .int .u64 x] (.tuple #[.int .i64 a, .bool true])) (H2 : Ct 205 #[.int .i64 w, .int .u64 y] (.tuple #[.int .i64 b, .bool true])) (H3 : Ct 133 #[.int .i64 a, .int .i64 b] (.bool t)) :
    Calls Tryz.prog 129 #[.int .i64 w, .int .u64 x, .int .u64 y, .func (.func 133) #[] #[]] W fun r W' => r = .returned (.bool t) ∧ Below W.heap.size W W' := by
  go_enter Tryz.func129, Tryz.ntmps129
  go_wp2_with fail
  refine (unhide H1 _).mono ?_
  rintro _ w1 ⟨rfl, hb⟩
  have HB := hide hb
  clear hb
  go_wp2_with fail
  refine (unhide H2 _).mono ?_
  rintro _ w2 ⟨rfl, hb⟩
  have HB := hide (bthen (unhide HB) hb)
  clear hb
  go_wp2_with fail
  refine (unhide H3 _).mono ?_
  rintro _ w3 ⟨rfl, hb⟩
  have HB := hide (bthen (unhide HB) hb)
  clear hb
  go_wp2_with fail
  go_ret
  exact ⟨rfl, unhide HB⟩
set_option maxRecDepth 100000 in
set_option maxHeartbeats 2000000 in
theorem ask_t_le {w x y a b : Int} {t : Bool} (W : World) (H1 : Ct 205 #[.int .i64 w, .int .u64 x] (.tuple #[.int .i64 a, .bool true])) (H2 : Ct 205 #[.int .i64 w, .int .u64 y] (.tuple #[.int .i64 b, .bool true])) (H3 : Ct 134 #[.int .i64 a, .int .i64 b] (.bool t)) :
    Calls Tryz.prog 129 #[.int .i64 w, .int .u64 x, .int .u64 y, .func (.func 134) #[] #[]] W fun r W' => r = .returned (.bool t) ∧ Below W.heap.size W W' := by
  go_enter Tryz.func129, Tryz.ntmps129
  go_wp2_with fail
  refine (unhide H1 _).mono ?_
  rintro _ w1 ⟨rfl, hb⟩
  have HB := hide hb
  clear hb
  go_wp2_with fail
  refine (unhide H2 _).mono ?_
  rintro _ w2 ⟨rfl, hb⟩
  have HB := hide (bthen (unhide HB) hb)
  clear hb
  go_wp2_with fail
  refine (unhide H3 _).mono ?_
  rintro _ w3 ⟨rfl, hb⟩
  have HB := hide (bthen (unhide HB) hb)
  clear hb
  go_wp2_with fail
  go_ret
  exact ⟨rfl, unhide HB⟩
set_option maxRecDepth 100000 in
set_option maxHeartbeats 2000000 in
theorem ask_t_ge {w x y a b : Int} {t : Bool} (W : World) (H1 : Ct 205 #[.int .i64 w, .int .u64 x] (.tuple #[.int .i64 a, .bool true])) (H2 : Ct 205 #[.int .i64 w, .int .u64 y] (.tuple #[.int .i64 b, .bool true])) (H3 : Ct 135 #[.int .i64 a, .int .i64 b] (.bool t)) :
    Calls Tryz.prog 129 #[.int .i64 w, .int .u64 x, .int .u64 y, .func (.func 135) #[] #[]] W fun r W' => r = .returned (.bool t) ∧ Below W.heap.size W W' := by
  go_enter Tryz.func129, Tryz.ntmps129
  go_wp2_with fail
  refine (unhide H1 _).mono ?_
  rintro _ w1 ⟨rfl, hb⟩
  have HB := hide hb
  clear hb
  go_wp2_with fail
  refine (unhide H2 _).mono ?_
  rintro _ w2 ⟨rfl, hb⟩
  have HB := hide (bthen (unhide HB) hb)
  clear hb
  go_wp2_with fail
  refine (unhide H3 _).mono ?_
  rintro _ w3 ⟨rfl, hb⟩
  have HB := hide (bthen (unhide HB) hb)
  clear hb
  go_wp2_with fail
  go_ret
  exact ⟨rfl, unhide HB⟩
set_option maxRecDepth 100000 in
set_option maxHeartbeats 2000000 in
theorem ask_f1 {w x y a b : Int} {v : Value} {t : Bool} (W : World) (H1 : Ct 205 #[.int .i64 w, .int .u64 x] (.tuple #[.int .i64 a, .bool false])) (H2 : Ct 205 #[.int .i64 w, .int .u64 y] (.tuple #[.int .i64 b, .bool t])) :
    Calls Tryz.prog 129 #[.int .i64 w, .int .u64 x, .int .u64 y, v] W fun r W' => r = .returned (.bool false) ∧ Below W.heap.size W W' := by
  go_enter Tryz.func129, Tryz.ntmps129
  go_wp2_with fail
  refine (unhide H1 _).mono ?_
  rintro _ w1 ⟨rfl, hb⟩
  have HB := hide hb
  clear hb
  go_wp2_with fail
  refine (unhide H2 _).mono ?_
  rintro _ w2 ⟨rfl, hb⟩
  have HB := hide (bthen (unhide HB) hb)
  clear hb
  go_wp2_with fail
  go_ret
  exact ⟨rfl, unhide HB⟩
set_option maxRecDepth 100000 in
set_option maxHeartbeats 2000000 in
theorem ask_f2 {w x y a b : Int} {v : Value} (W : World) (H1 : Ct 205 #[.int .i64 w, .int .u64 x] (.tuple #[.int .i64 a, .bool true])) (H2 : Ct 205 #[.int .i64 w, .int .u64 y] (.tuple #[.int .i64 b, .bool false])) :
    Calls Tryz.prog 129 #[.int .i64 w, .int .u64 x, .int .u64 y, v] W fun r W' => r = .returned (.bool false) ∧ Below W.heap.size W W' := by
  go_enter Tryz.func129, Tryz.ntmps129
  go_wp2_with fail
  refine (unhide H1 _).mono ?_
  rintro _ w1 ⟨rfl, hb⟩
  have HB := hide hb
  clear hb
  go_wp2_with fail
  refine (unhide H2 _).mono ?_
  rintro _ w2 ⟨rfl, hb⟩
  have HB := hide (bthen (unhide HB) hb)
  clear hb
  go_wp2_with fail
  go_ret
  exact ⟨rfl, unhide HB⟩
set_option maxRecDepth 100000 in
set_option maxHeartbeats 2000000 in
theorem eq_l {w x y : Int} {t : Bool} (W : World) (H : Ct 129 #[.int .i64 w, .int .u64 x, .int .u64 y, .func (.func 130) #[] #[]] (.bool t)) :
    Calls Tryz.prog 66 #[.int .i64 w, .int .u64 x, .int .u64 y] W fun r W' => r = .returned (.bool t) ∧ Below W.heap.size W W' := by
  go_enter Tryz.func66, Tryz.ntmps66
  go_wp2_with fail
  refine (unhide H _).mono ?_
  rintro _ w1 ⟨rfl, hb⟩
  have HB := hide hb
  clear hb
  go_wp2_with fail
  go_ret
  exact ⟨rfl, unhide HB⟩
set_option maxRecDepth 100000 in
set_option maxHeartbeats 2000000 in
theorem lt_l {w x y : Int} {t : Bool} (W : World) (H : Ct 129 #[.int .i64 w, .int .u64 x, .int .u64 y, .func (.func 132) #[] #[]] (.bool t)) :
    Calls Tryz.prog 68 #[.int .i64 w, .int .u64 x, .int .u64 y] W fun r W' => r = .returned (.bool t) ∧ Below W.heap.size W W' := by
  go_enter Tryz.func68, Tryz.ntmps68
  go_wp2_with fail
  refine (unhide H _).mono ?_
  rintro _ w1 ⟨rfl, hb⟩
  have HB := hide hb
  clear hb
  go_wp2_with fail
  go_ret
  exact ⟨rfl, unhide HB⟩
set_option maxRecDepth 100000 in
set_option maxHeartbeats 2000000 in
theorem gt_l {w x y : Int} {t : Bool} (W : World) (H : Ct 129 #[.int .i64 w, .int .u64 x, .int .u64 y, .func (.func 133) #[] #[]] (.bool t)) :
    Calls Tryz.prog 69 #[.int .i64 w, .int .u64 x, .int .u64 y] W fun r W' => r = .returned (.bool t) ∧ Below W.heap.size W W' := by
  go_enter Tryz.func69, Tryz.ntmps69
  go_wp2_with fail
  refine (unhide H _).mono ?_
  rintro _ w1 ⟨rfl, hb⟩
  have HB := hide hb
  clear hb
  go_wp2_with fail
  go_ret
  exact ⟨rfl, unhide HB⟩
set_option maxRecDepth 100000 in
set_option maxHeartbeats 2000000 in
theorem le_l {w x y : Int} {t : Bool} (W : World) (H : Ct 129 #[.int .i64 w, .int .u64 x, .int .u64 y, .func (.func 134) #[] #[]] (.bool t)) :
    Calls Tryz.prog 70 #[.int .i64 w, .int .u64 x, .int .u64 y] W fun r W' => r = .returned (.bool t) ∧ Below W.heap.size W W' := by
  go_enter Tryz.func70, Tryz.ntmps70
  go_wp2_with fail
  refine (unhide H _).mono ?_
  rintro _ w1 ⟨rfl, hb⟩
  have HB := hide hb
  clear hb
  go_wp2_with fail
  go_ret
  exact ⟨rfl, unhide HB⟩
set_option maxRecDepth 100000 in
set_option maxHeartbeats 2000000 in
theorem ge_l {w x y : Int} {t : Bool} (W : World) (H : Ct 129 #[.int .i64 w, .int .u64 x, .int .u64 y, .func (.func 135) #[] #[]] (.bool t)) :
    Calls Tryz.prog 71 #[.int .i64 w, .int .u64 x, .int .u64 y] W fun r W' => r = .returned (.bool t) ∧ Below W.heap.size W W' := by
  go_enter Tryz.func71, Tryz.ntmps71
  go_wp2_with fail
  refine (unhide H _).mono ?_
  rintro _ w1 ⟨rfl, hb⟩
  have HB := hide hb
  clear hb
  go_wp2_with fail
  go_ret
  exact ⟨rfl, unhide HB⟩
set_option maxRecDepth 100000 in
set_option maxHeartbeats 2000000 in
theorem ne_wt {w x y : Int} {t : Bool} (W : World) (HKN : Ct 131 #[.int .i64 w] (.bool true)) (H : Ct 66 #[.int .i64 w, .int .u64 x, .int .u64 y] (.bool t)) :
    Calls Tryz.prog 67 #[.int .i64 w, .int .u64 x, .int .u64 y] W fun r W' => r = .returned (.bool (!t)) ∧ Below W.heap.size W W' := by
  go_enter Tryz.func67, Tryz.ntmps67
  go_wp2_with fail
  refine (unhide HKN _).mono ?_
  rintro _ w1 ⟨rfl, hb⟩
  have HB := hide hb
  clear hb
  go_wp2_with fail
  refine (unhide H _).mono ?_
  rintro _ w2 ⟨rfl, hb⟩
  have HB := hide (bthen (unhide HB) hb)
  clear hb
  go_wp2_with fail
  go_ret
  exact ⟨rfl, unhide HB⟩

end Go.Proofs.YtpbgpdmffejdgaaGreatDoor
namespace Go.Proofs.YtpbgpdmffejdgaaGreatDoor
open Go.RowKit
open Go.Proofs.YtpbgpdmffejdgaaGreatDoor.W

set_option maxRecDepth 100000 in
set_option maxHeartbeats 2000000 in
theorem or_c {x y z : Int} (W : World) (h : bits .or .u64 x y = z) :
    Calls Tryz.prog 166 #[.int .u64 x, .int .u64 y] W fun r W' => r = .returned (.int .u64 z) ∧ Below W.heap.size W W' := by
  go_enter Tryz.func166, Tryz.ntmps166
  go_wp2_with fail
  go_ret
  exact ⟨rfl, Below.refl _ _⟩
set_option maxRecDepth 100000 in
set_option maxHeartbeats 2000000 in
theorem and_c {x y z : Int} (W : World) (h : bits .and .u64 x y = z) :
    Calls Tryz.prog 167 #[.int .u64 x, .int .u64 y] W fun r W' => r = .returned (.int .u64 z) ∧ Below W.heap.size W W' := by
  go_enter Tryz.func167, Tryz.ntmps167
  go_wp2_with fail
  go_ret
  exact ⟨rfl, Below.refl _ _⟩
set_option maxRecDepth 100000 in
set_option maxHeartbeats 2000000 in
theorem pick_min_a {w x y V : Int} (W : World) (H1 : Ct 68 #[.int .i64 w, .int .u64 x, .int .u64 y] (.bool true)) (HC : Ct 17 #[.int .i64 w, .int .u64 x] (.int .u64 V)) :
    Calls Tryz.prog 165 #[.int .i64 w, .int .u64 x, .int .u64 y, .func (.func 68) #[] #[], .func (.func 166) #[] #[]] W fun r W' => r = .returned (.int .u64 V) ∧ Below W.heap.size W W' := by
  go_enter Tryz.func165, Tryz.ntmps165
  go_wp2_with fail
  refine (unhide H1 _).mono ?_
  rintro _ w1 ⟨rfl, hb⟩
  have HB := hide hb
  clear hb
  go_wp2_with fail
  refine (unhide HC _).mono ?_
  rintro _ w2 ⟨rfl, hb⟩
  have HB := hide (bthen (unhide HB) hb)
  clear hb
  go_wp2_with fail
  go_ret
  exact ⟨rfl, unhide HB⟩
set_option maxRecDepth 100000 in
set_option maxHeartbeats 2000000 in
theorem pick_min_b {w x y V : Int} (W : World) (H1 : Ct 68 #[.int .i64 w, .int .u64 x, .int .u64 y] (.bool false)) (H2 : Ct 68 #[.int .i64 w, .int .u64 y, .int .u64 x] (.bool true)) (HC : Ct 17 #[.int .i64 w, .int .u64 y] (.int .u64 V)) :
    Calls Tryz.prog 165 #[.int .i64 w, .int .u64 x, .int .u64 y, .func (.func 68) #[] #[], .func (.func 166) #[] #[]] W fun r W' => r = .returned (.int .u64 V) ∧ Below W.heap.size W W' := by
  go_enter Tryz.func165, Tryz.ntmps165
  go_wp2_with fail
  refine (unhide H1 _).mono ?_
  rintro _ w1 ⟨rfl, hb⟩
  have HB := hide hb
  clear hb
  go_wp2_with fail
  refine (unhide H2 _).mono ?_
  rintro _ w2 ⟨rfl, hb⟩
  have HB := hide (bthen (unhide HB) hb)
  clear hb
  go_wp2_with fail
  refine (unhide HC _).mono ?_
  rintro _ w3 ⟨rfl, hb⟩
  have HB := hide (bthen (unhide HB) hb)
  clear hb
  go_wp2_with fail
  go_ret
  exact ⟨rfl, unhide HB⟩
set_option maxRecDepth 100000 in
set_option maxHeartbeats 2000000 in
theorem pick_min_e {w x y z V : Int} (W : World) (H1 : Ct 68 #[.int .i64 w, .int .u64 x, .int .u64 y] (.bool false)) (H2 : Ct 68 #[.int .i64 w, .int .u64 y, .int .u64 x] (.bool false)) (H3 : Ct 66 #[.int .i64 w, .int .u64 x, .int .u64 y] (.bool true)) (HO : Ct 166 #[.int .u64 x, .int .u64 y] (.int .u64 z)) (HC : Ct 17 #[.int .i64 w, .int .u64 z] (.int .u64 V)) :
    Calls Tryz.prog 165 #[.int .i64 w, .int .u64 x, .int .u64 y, .func (.func 68) #[] #[], .func (.func 166) #[] #[]] W fun r W' => r = .returned (.int .u64 V) ∧ Below W.heap.size W W' := by
  go_enter Tryz.func165, Tryz.ntmps165
  go_wp2_with fail
  refine (unhide H1 _).mono ?_
  rintro _ w1 ⟨rfl, hb⟩
  have HB := hide hb
  clear hb
  go_wp2_with fail
  refine (unhide H2 _).mono ?_
  rintro _ w2 ⟨rfl, hb⟩
  have HB := hide (bthen (unhide HB) hb)
  clear hb
  go_wp2_with fail
  refine (unhide H3 _).mono ?_
  rintro _ w3 ⟨rfl, hb⟩
  have HB := hide (bthen (unhide HB) hb)
  clear hb
  go_wp2_with fail
  refine (unhide HO _).mono ?_
  rintro _ w4 ⟨rfl, hb⟩
  have HB := hide (bthen (unhide HB) hb)
  clear hb
  go_wp2_with fail
  refine (unhide HC _).mono ?_
  rintro _ w5 ⟨rfl, hb⟩
  have HB := hide (bthen (unhide HB) hb)
  clear hb
  go_wp2_with fail
  go_ret
  exact ⟨rfl, unhide HB⟩
set_option maxRecDepth 100000 in
set_option maxHeartbeats 2000000 in
theorem pick_min_n {w x y V : Int} (W : World) (H1 : Ct 68 #[.int .i64 w, .int .u64 x, .int .u64 y] (.bool false)) (H2 : Ct 68 #[.int .i64 w, .int .u64 y, .int .u64 x] (.bool false)) (H3 : Ct 66 #[.int .i64 w, .int .u64 x, .int .u64 y] (.bool false)) (HN : Ct 156 #[.int .i64 w] (.int .u64 V)) :
    Calls Tryz.prog 165 #[.int .i64 w, .int .u64 x, .int .u64 y, .func (.func 68) #[] #[], .func (.func 166) #[] #[]] W fun r W' => r = .returned (.int .u64 V) ∧ Below W.heap.size W W' := by
  go_enter Tryz.func165, Tryz.ntmps165
  go_wp2_with fail
  refine (unhide H1 _).mono ?_
  rintro _ w1 ⟨rfl, hb⟩
  have HB := hide hb
  clear hb
  go_wp2_with fail
  refine (unhide H2 _).mono ?_
  rintro _ w2 ⟨rfl, hb⟩
  have HB := hide (bthen (unhide HB) hb)
  clear hb
  go_wp2_with fail
  refine (unhide H3 _).mono ?_
  rintro _ w3 ⟨rfl, hb⟩
  have HB := hide (bthen (unhide HB) hb)
  clear hb
  go_wp2_with fail
  refine (unhide HN _).mono ?_
  rintro _ w4 ⟨rfl, hb⟩
  have HB := hide (bthen (unhide HB) hb)
  clear hb
  go_wp2_with fail
  go_ret
  exact ⟨rfl, unhide HB⟩
set_option maxRecDepth 100000 in
set_option maxHeartbeats 2000000 in
theorem min_l {w x y V : Int} (W : World) (H : Ct 165 #[.int .i64 w, .int .u64 x, .int .u64 y, .func (.func 68) #[] #[], .func (.func 166) #[] #[]] (.int .u64 V)) :
    Calls Tryz.prog 89 #[.int .i64 w, .int .u64 x, .int .u64 y] W fun r W' => r = .returned (.int .u64 V) ∧ Below W.heap.size W W' := by
  go_enter Tryz.func89, Tryz.ntmps89
  go_wp2_with fail
  refine (unhide H _).mono ?_
  rintro _ w1 ⟨rfl, hb⟩
  have HB := hide hb
  clear hb
  go_wp2_with fail
  go_ret
  exact ⟨rfl, unhide HB⟩
set_option maxRecDepth 100000 in
set_option maxHeartbeats 2000000 in
theorem pick_max_a {w x y V : Int} (W : World) (H1 : Ct 69 #[.int .i64 w, .int .u64 x, .int .u64 y] (.bool true)) (HC : Ct 17 #[.int .i64 w, .int .u64 x] (.int .u64 V)) :
    Calls Tryz.prog 165 #[.int .i64 w, .int .u64 x, .int .u64 y, .func (.func 69) #[] #[], .func (.func 167) #[] #[]] W fun r W' => r = .returned (.int .u64 V) ∧ Below W.heap.size W W' := by
  go_enter Tryz.func165, Tryz.ntmps165
  go_wp2_with fail
  refine (unhide H1 _).mono ?_
  rintro _ w1 ⟨rfl, hb⟩
  have HB := hide hb
  clear hb
  go_wp2_with fail
  refine (unhide HC _).mono ?_
  rintro _ w2 ⟨rfl, hb⟩
  have HB := hide (bthen (unhide HB) hb)
  clear hb
  go_wp2_with fail
  go_ret
  exact ⟨rfl, unhide HB⟩
set_option maxRecDepth 100000 in
set_option maxHeartbeats 2000000 in
theorem pick_max_b {w x y V : Int} (W : World) (H1 : Ct 69 #[.int .i64 w, .int .u64 x, .int .u64 y] (.bool false)) (H2 : Ct 69 #[.int .i64 w, .int .u64 y, .int .u64 x] (.bool true)) (HC : Ct 17 #[.int .i64 w, .int .u64 y] (.int .u64 V)) :
    Calls Tryz.prog 165 #[.int .i64 w, .int .u64 x, .int .u64 y, .func (.func 69) #[] #[], .func (.func 167) #[] #[]] W fun r W' => r = .returned (.int .u64 V) ∧ Below W.heap.size W W' := by
  go_enter Tryz.func165, Tryz.ntmps165
  go_wp2_with fail
  refine (unhide H1 _).mono ?_
  rintro _ w1 ⟨rfl, hb⟩
  have HB := hide hb
  clear hb
  go_wp2_with fail
  refine (unhide H2 _).mono ?_
  rintro _ w2 ⟨rfl, hb⟩
  have HB := hide (bthen (unhide HB) hb)
  clear hb
  go_wp2_with fail
  refine (unhide HC _).mono ?_
  rintro _ w3 ⟨rfl, hb⟩
  have HB := hide (bthen (unhide HB) hb)
  clear hb
  go_wp2_with fail
  go_ret
  exact ⟨rfl, unhide HB⟩
set_option maxRecDepth 100000 in
set_option maxHeartbeats 2000000 in
theorem pick_max_e {w x y z V : Int} (W : World) (H1 : Ct 69 #[.int .i64 w, .int .u64 x, .int .u64 y] (.bool false)) (H2 : Ct 69 #[.int .i64 w, .int .u64 y, .int .u64 x] (.bool false)) (H3 : Ct 66 #[.int .i64 w, .int .u64 x, .int .u64 y] (.bool true)) (HO : Ct 167 #[.int .u64 x, .int .u64 y] (.int .u64 z)) (HC : Ct 17 #[.int .i64 w, .int .u64 z] (.int .u64 V)) :
    Calls Tryz.prog 165 #[.int .i64 w, .int .u64 x, .int .u64 y, .func (.func 69) #[] #[], .func (.func 167) #[] #[]] W fun r W' => r = .returned (.int .u64 V) ∧ Below W.heap.size W W' := by
  go_enter Tryz.func165, Tryz.ntmps165
  go_wp2_with fail
  refine (unhide H1 _).mono ?_
  rintro _ w1 ⟨rfl, hb⟩
  have HB := hide hb
  clear hb
  go_wp2_with fail
  refine (unhide H2 _).mono ?_
  rintro _ w2 ⟨rfl, hb⟩
  have HB := hide (bthen (unhide HB) hb)
  clear hb
  go_wp2_with fail
  refine (unhide H3 _).mono ?_
  rintro _ w3 ⟨rfl, hb⟩
  have HB := hide (bthen (unhide HB) hb)
  clear hb
  go_wp2_with fail
  refine (unhide HO _).mono ?_
  rintro _ w4 ⟨rfl, hb⟩
  have HB := hide (bthen (unhide HB) hb)
  clear hb
  go_wp2_with fail
  refine (unhide HC _).mono ?_
  rintro _ w5 ⟨rfl, hb⟩
  have HB := hide (bthen (unhide HB) hb)
  clear hb
  go_wp2_with fail
  go_ret
  exact ⟨rfl, unhide HB⟩
set_option maxRecDepth 100000 in
set_option maxHeartbeats 2000000 in
theorem pick_max_n {w x y V : Int} (W : World) (H1 : Ct 69 #[.int .i64 w, .int .u64 x, .int .u64 y] (.bool false)) (H2 : Ct 69 #[.int .i64 w, .int .u64 y, .int .u64 x] (.bool false)) (H3 : Ct 66 #[.int .i64 w, .int .u64 x, .int .u64 y] (.bool false)) (HN : Ct 156 #[.int .i64 w] (.int .u64 V)) :
    Calls Tryz.prog 165 #[.int .i64 w, .int .u64 x, .int .u64 y, .func (.func 69) #[] #[], .func (.func 167) #[] #[]] W fun r W' => r = .returned (.int .u64 V) ∧ Below W.heap.size W W' := by
  go_enter Tryz.func165, Tryz.ntmps165
  go_wp2_with fail
  refine (unhide H1 _).mono ?_
  rintro _ w1 ⟨rfl, hb⟩
  have HB := hide hb
  clear hb
  go_wp2_with fail
  refine (unhide H2 _).mono ?_
  rintro _ w2 ⟨rfl, hb⟩
  have HB := hide (bthen (unhide HB) hb)
  clear hb
  go_wp2_with fail
  refine (unhide H3 _).mono ?_
  rintro _ w3 ⟨rfl, hb⟩
  have HB := hide (bthen (unhide HB) hb)
  clear hb
  go_wp2_with fail
  refine (unhide HN _).mono ?_
  rintro _ w4 ⟨rfl, hb⟩
  have HB := hide (bthen (unhide HB) hb)
  clear hb
  go_wp2_with fail
  go_ret
  exact ⟨rfl, unhide HB⟩
set_option maxRecDepth 100000 in
set_option maxHeartbeats 2000000 in
theorem max_l {w x y V : Int} (W : World) (H : Ct 165 #[.int .i64 w, .int .u64 x, .int .u64 y, .func (.func 69) #[] #[], .func (.func 167) #[] #[]] (.int .u64 V)) :
    Calls Tryz.prog 90 #[.int .i64 w, .int .u64 x, .int .u64 y] W fun r W' => r = .returned (.int .u64 V) ∧ Below W.heap.size W W' := by
  go_enter Tryz.func90, Tryz.ntmps90
  go_wp2_with fail
  refine (unhide H _).mono ?_
  rintro _ w1 ⟨rfl, hb⟩
  have HB := hide hb
  clear hb
  go_wp2_with fail
  go_ret
  exact ⟨rfl, unhide HB⟩

end Go.Proofs.YtpbgpdmffejdgaaGreatDoor
namespace Go.Proofs.YtpbgpdmffejdgaaGreatDoor
open Go.RowKit
open Go.Proofs.YtpbgpdmffejdgaaGreatDoor.W

/-- A float's code with its sign. -/
def sc (P Q x : Int) : Int := if oN P Q x then -(oc P Q x : Int) else (oc P Q x : Int)
/-- How two whole numbers are to each other. -/
def cmpS (a b : Int) : Int := if a < b then -1 else if a = b then 0 else 1
/-- How two floats are to each other. -/
def cmpB (P Q x y : Int) : Int := if oK P Q x = 3 ∨ oK P Q y = 3 then 2 else cmpS (sc P Q x) (sc P Q y)
/-- The one of two that is wanted. -/
def pickB (f P Q t : Int) (n : Bool) (x y : Int) : Int := if cmpB P Q x y = 2 then nanB f P Q else if cmpB P Q x y = t ∨ (cmpB P Q x y = 0 ∧ sg P Q x = n) then cutN f P Q x else cutN f P Q y

theorem oK_nan (P Q x : Int) : (x / P % Q == Q - 1 && x % P != 0) = true ↔ oK P Q x = 3 := by
  unfold oK
  by_cases h : x / P % Q = Q - 1
  · rw [if_pos h, eq_t h]
    by_cases h2 : x % P = 0
    · rw [if_pos h2, ne_f h2]; simp
    · rw [if_neg h2, ne_t h2]; simp
  · rw [if_neg h, eq_f h]
    simp
    split <;> omega
theorem nan_t {P Q x : Int} (h : oK P Q x = 3) : (x / P % Q == Q - 1 && x % P != 0) = true := (oK_nan P Q x).2 h
theorem nan_f {P Q x : Int} (h : oK P Q x ≠ 3) : (x / P % Q == Q - 1 && x % P != 0) = false := by
  cases hh : (x / P % Q == Q - 1 && x % P != 0)
  · rfl
  · exact absurd ((oK_nan P Q x).1 hh) h
theorem oN_sg {P Q x : Int} (h : oK P Q x ≠ 3) : oN P Q x = sg P Q x := by
  unfold oN
  rw [if_neg]
  intro hh
  apply h
  unfold oK
  rw [if_pos hh.1, if_neg hh.2]

theorem sign_bit {k a : Nat} (ha : a < 2 ^ (k + 1)) : a &&& 2 ^ k = 0 ↔ a < 2 ^ k := by
  constructor
  · intro h
    refine Decidable.byContradiction fun hn => ?_
    obtain ⟨r, rfl⟩ : ∃ r, a = 2 ^ k + r := ⟨a - 2 ^ k, by omega⟩
    have hr : r < 2 ^ k := by rw [Nat.pow_succ] at ha; omega
    have h1 : ((2 ^ k + r) &&& 2 ^ k).testBit k = false := by rw [h]; exact Nat.zero_testBit k
    rw [Nat.testBit_and, Nat.testBit_two_pow_self, Nat.testBit_two_pow_add_eq, Nat.testBit_lt_two_pow hr] at h1
    exact absurd h1 (by decide)
  · intro h
    apply Nat.eq_of_testBit_eq
    intro i
    rw [Nat.testBit_and, Nat.zero_testBit, Nat.testBit_two_pow]
    by_cases hi : k = i
    · subst hi
      rw [Nat.testBit_lt_two_pow h]
      rfl
    · simp [hi]

/-- What Rank makes of the bits. -/
theorem rank_bits {w e f P Q b x : Int} (k : Kd w e f P Q b) (h : oK P Q x ≠ 3) :
    ∃ B, bits .andNot .u64 (cutN f P Q x) (put f P Q true 0 0) = (oc P Q x : Int) ∧ bits .and .u64 (cutN f P Q x) (put f P Q true 0 0) = B ∧ (B != 0) = oN P Q x ∧ (oc P Q x : Int) < 9223372036854775808 := by
  obtain ⟨p1, p2, q1, q2⟩ := k.pos
  obtain ⟨u, v⟩ := exp_in (x / P) (show 1 ≤ Q by omega)
  obtain ⟨u', v'⟩ := exp_in x (show 1 ≤ P by omega)
  have hn := oN_sg h
  have hc : ((oc P Q x : Nat) : Int) = x / P % Q * P + x % P := by
    unfold oc
    have := Int.mul_nonneg u (show 0 ≤ P by omega)
    omega
  have hcut := cut_put k.wd.sz x
  rw [← hcut, hn, put_yes k.f0, Int.zero_mul, Int.zero_add, Int.zero_add]
  rw [hn] at *
  clear hn hcut h
  generalize x / P % Q = E at *
  generalize x % P = F at *
  generalize sg P Q x = n at *
  generalize oc P Q x = c at *
  rcases k with ⟨-, -, rfl, rfl, rfl, -⟩ | ⟨-, -, rfl, rfl, rfl, -⟩
  · have hput : put 23 8388608 256 n E F = ((c + (if n then 2147483648 else 0) : Nat) : Int) := by
      unfold put
      cases n <;> simp <;> omega
    have hc2 : c < 2147483648 := by omega
    have ha : c + (if n then 2147483648 else 0) < 2 ^ 32 := by cases n <;> simp <;> omega
    rw [hput, show (8388608 * 256 : Int) = ((2147483648 : Nat) : Int) by decide]
    refine ⟨_, ?_, rfl, ?_, by omega⟩
    · rw [u64_andNot_nat _ _ (by omega) (by decide)]
      generalize hA : c + (if n then 2147483648 else 0) = a at *
      have e1 : a &&& 4294967295 = a := by
        rw [show 4294967295 = 2 ^ 32 - 1 by decide, Nat.and_two_pow_sub_one_eq_mod, Nat.mod_eq_of_lt ha]
      rw [← e1, Nat.and_assoc, show 4294967295 &&& (18446744073709551615 - 2147483648) = 2 ^ 31 - 1 by decide, Nat.and_two_pow_sub_one_eq_mod]
      cases n <;> simp at hA <;> omega
    · rw [Go.bits_and_u64_nat _ _ (by omega) (by decide)]
      have := sign_bit (k := 31) (a := c + (if n then 2147483648 else 0)) ha
      generalize hA : c + (if n then 2147483648 else 0) = a at *
      rw [show 2147483648 = 2 ^ 31 by decide]
      cases n
      · have : a &&& 2 ^ 31 = 0 := this.2 (by simp at hA; omega)
        rw [this]; rfl
      · have : ¬ a &&& 2 ^ 31 = 0 := fun hh => by have := this.1 hh; simp at hA; omega
        exact ne_t (by omega)
  · have hput : put 52 4503599627370496 2048 n E F = ((c + (if n then 9223372036854775808 else 0) : Nat) : Int) := by
      unfold put
      cases n <;> simp <;> omega
    have hc2 : c < 9223372036854775808 := by omega
    have ha : c + (if n then 9223372036854775808 else 0) < 2 ^ 64 := by cases n <;> simp <;> omega
    rw [hput, show (4503599627370496 * 2048 : Int) = ((9223372036854775808 : Nat) : Int) by decide]
    refine ⟨_, ?_, rfl, ?_, by omega⟩
    · rw [u64_andNot_nat _ _ (by omega) (by decide)]
      generalize hA : c + (if n then 9223372036854775808 else 0) = a at *
      rw [show (18446744073709551615 - 9223372036854775808) = 2 ^ 63 - 1 by decide, Nat.and_two_pow_sub_one_eq_mod]
      cases n <;> simp at hA <;> omega
    · rw [Go.bits_and_u64_nat _ _ (by omega) (by decide)]
      have := sign_bit (k := 63) (a := c + (if n then 9223372036854775808 else 0)) ha
      generalize hA : c + (if n then 9223372036854775808 else 0) = a at *
      rw [show 9223372036854775808 = 2 ^ 63 by decide]
      cases n
      · have : a &&& 2 ^ 63 = 0 := this.2 (by simp at hA; omega)
        rw [this]; rfl
      · have : ¬ a &&& 2 ^ 63 = 0 := fun hh => by have := this.1 hh; simp at hA; omega
        exact ne_t (by omega)

theorem okn_any {w e f P Q b : Int} (h : Wd w e f P Q b) (W : World) : Calls Tryz.prog 131 #[.int .i64 w] W fun r W' => r = .returned (.bool (f != 0)) ∧ Below W.heap.size W W' := by
  have := okn_l W (hide (fun W => fields_any h W))
  have he : (e != 0) = (f != 0) := by
    rcases h with ⟨-, rfl, rfl, -⟩ | ⟨-, rfl, rfl, -⟩ | ⟨-, rfl, rfl, -⟩ <;> rfl
  rw [he] at this
  exact this
theorem okn_t {w e f P Q b : Int} (k : Kd w e f P Q b) (W : World) : Calls Tryz.prog 131 #[.int .i64 w] W fun r W' => r = .returned (.bool true) ∧ Below W.heap.size W W' := by
  have := okn_any k.wd W
  rw [ne_t k.f0] at this
  exact this
theorem rank_nan {w e f P Q b x : Int} (k : Kd w e f P Q b) (W : World) (x0 : 0 ≤ x) (x1 : x < 18446744073709551616) (h : oK P Q x = 3) : Calls Tryz.prog 205 #[.int .i64 w, .int .u64 x] W fun r W' => r = .returned (.tuple #[.int .i64 0, .bool false]) ∧ Below W.heap.size W W' := by
  have hi := fun W => isNanW_any x k.wd W x0 x1
  rw [nan_t h] at hi
  exact rank_n W (hide (okn_t k)) (hide hi)
theorem rank_any {w e f P Q b x : Int} (k : Kd w e f P Q b) (W : World) (x0 : 0 ≤ x) (x1 : x < 18446744073709551616) (h : oK P Q x ≠ 3) : Calls Tryz.prog 205 #[.int .i64 w, .int .u64 x] W fun r W' => r = .returned (.tuple #[.int .i64 (sc P Q x), .bool true]) ∧ Below W.heap.size W W' := by
  have hi := fun W => isNanW_any x k.wd W x0 x1
  rw [nan_f h] at hi
  obtain ⟨B, r1, r2, r3, r4⟩ := rank_bits k h
  unfold sc
  cases hn : oN P Q x
  · rw [hn] at r3
    exact rank_p W (hide (okn_t k)) (hide hi) (hide (fun W => zero_any true k.wd W)) (hide (fun W => cut_any x k.wd W x0 x1)) r1 (i64_id (by omega) (by omega)) r2 r3
  · rw [hn] at r3
    exact rank_m W (hide (okn_t k)) (hide hi) (hide (fun W => zero_any true k.wd W)) (hide (fun W => cut_any x k.wd W x0 x1)) r1 (i64_id (by omega) (by omega)) r2 r3 (i64_id (by omega) (by omega))

theorem cmpS_eq (a b : Int) : (a == b) = (cmpS a b == 0) := by
  unfold cmpS
  rcases Int.lt_trichotomy a b with h | h | h
  · rw [if_pos h, eq_f (by omega)]; rfl
  · rw [if_neg (by omega), if_pos h, eq_t h]; rfl
  · rw [if_neg (by omega), if_neg (by omega), eq_f (by omega)]; rfl
theorem cmpS_lt (a b : Int) : decide (a < b) = (cmpS a b == -1) := by
  unfold cmpS
  rcases Int.lt_trichotomy a b with h | h | h
  · rw [if_pos h, decide_eq_true h]; rfl
  · rw [if_neg (by omega), if_pos h, decide_eq_false (by omega)]; rfl
  · rw [if_neg (by omega), if_neg (by omega), decide_eq_false (by omega)]; rfl
theorem cmpS_gt (a b : Int) : decide (b < a) = (cmpS a b == 1) := by
  unfold cmpS
  rcases Int.lt_trichotomy a b with h | h | h
  · rw [if_pos h, decide_eq_false (by omega)]; rfl
  · rw [if_neg (by omega), if_pos h, decide_eq_false (by omega)]; rfl
  · rw [if_neg (by omega), if_neg (by omega), decide_eq_true h]; rfl
theorem cmpS_le (a b : Int) : decide (a ≤ b) = (cmpS a b == -1 || cmpS a b == 0) := by
  unfold cmpS
  rcases Int.lt_trichotomy a b with h | h | h
  · rw [if_pos h, decide_eq_true (by omega)]; rfl
  · rw [if_neg (by omega), if_pos h, decide_eq_true (by omega)]; rfl
  · rw [if_neg (by omega), if_neg (by omega), decide_eq_false (by omega)]; rfl
theorem cmpS_ge (a b : Int) : decide (b ≤ a) = (cmpS a b == 1 || cmpS a b == 0) := by
  unfold cmpS
  rcases Int.lt_trichotomy a b with h | h | h
  · rw [if_pos h, decide_eq_false (by omega)]; rfl
  · rw [if_neg (by omega), if_pos h, decide_eq_true (by omega)]; rfl
  · rw [if_neg (by omega), if_neg (by omega), decide_eq_true (by omega)]; rfl

theorem eq_any {w e f P Q b x y : Int} (k : Kd w e f P Q b) (W : World) (x0 : 0 ≤ x) (x1 : x < 18446744073709551616) (y0 : 0 ≤ y) (y1 : y < 18446744073709551616) : Calls Tryz.prog 66 #[.int .i64 w, .int .u64 x, .int .u64 y] W fun r W' => r = .returned (.bool (cmpB P Q x y == 0)) ∧ Below W.heap.size W W' := by
  unfold cmpB
  by_cases hx : oK P Q x = 3
  · rw [if_pos (Or.inl hx)]
    by_cases hy : oK P Q y = 3
    · exact eq_l W (hide (fun W => ask_f1 W (hide (fun W => rank_nan k W x0 x1 hx)) (hide (fun W => rank_nan k W y0 y1 hy))))
    · exact eq_l W (hide (fun W => ask_f1 W (hide (fun W => rank_nan k W x0 x1 hx)) (hide (fun W => rank_any k W y0 y1 hy))))
  · by_cases hy : oK P Q y = 3
    · rw [if_pos (Or.inr hy)]
      exact eq_l W (hide (fun W => ask_f2 W (hide (fun W => rank_any k W x0 x1 hx)) (hide (fun W => rank_nan k W y0 y1 hy))))
    · rw [if_neg (by omega), ← cmpS_eq]
      exact eq_l W (hide (fun W => ask_t_eq W (hide (fun W => rank_any k W x0 x1 hx)) (hide (fun W => rank_any k W y0 y1 hy)) (hide (fun W => eq_c W))))
theorem lt_any {w e f P Q b x y : Int} (k : Kd w e f P Q b) (W : World) (x0 : 0 ≤ x) (x1 : x < 18446744073709551616) (y0 : 0 ≤ y) (y1 : y < 18446744073709551616) : Calls Tryz.prog 68 #[.int .i64 w, .int .u64 x, .int .u64 y] W fun r W' => r = .returned (.bool (cmpB P Q x y == -1)) ∧ Below W.heap.size W W' := by
  unfold cmpB
  by_cases hx : oK P Q x = 3
  · rw [if_pos (Or.inl hx)]
    by_cases hy : oK P Q y = 3
    · exact lt_l W (hide (fun W => ask_f1 W (hide (fun W => rank_nan k W x0 x1 hx)) (hide (fun W => rank_nan k W y0 y1 hy))))
    · exact lt_l W (hide (fun W => ask_f1 W (hide (fun W => rank_nan k W x0 x1 hx)) (hide (fun W => rank_any k W y0 y1 hy))))
  · by_cases hy : oK P Q y = 3
    · rw [if_pos (Or.inr hy)]
      exact lt_l W (hide (fun W => ask_f2 W (hide (fun W => rank_any k W x0 x1 hx)) (hide (fun W => rank_nan k W y0 y1 hy))))
    · rw [if_neg (by omega), ← cmpS_lt]
      exact lt_l W (hide (fun W => ask_t_lt W (hide (fun W => rank_any k W x0 x1 hx)) (hide (fun W => rank_any k W y0 y1 hy)) (hide (fun W => lt_c W))))
theorem gt_any {w e f P Q b x y : Int} (k : Kd w e f P Q b) (W : World) (x0 : 0 ≤ x) (x1 : x < 18446744073709551616) (y0 : 0 ≤ y) (y1 : y < 18446744073709551616) : Calls Tryz.prog 69 #[.int .i64 w, .int .u64 x, .int .u64 y] W fun r W' => r = .returned (.bool (cmpB P Q x y == 1)) ∧ Below W.heap.size W W' := by
  unfold cmpB
  by_cases hx : oK P Q x = 3
  · rw [if_pos (Or.inl hx)]
    by_cases hy : oK P Q y = 3
    · exact gt_l W (hide (fun W => ask_f1 W (hide (fun W => rank_nan k W x0 x1 hx)) (hide (fun W => rank_nan k W y0 y1 hy))))
    · exact gt_l W (hide (fun W => ask_f1 W (hide (fun W => rank_nan k W x0 x1 hx)) (hide (fun W => rank_any k W y0 y1 hy))))
  · by_cases hy : oK P Q y = 3
    · rw [if_pos (Or.inr hy)]
      exact gt_l W (hide (fun W => ask_f2 W (hide (fun W => rank_any k W x0 x1 hx)) (hide (fun W => rank_nan k W y0 y1 hy))))
    · rw [if_neg (by omega), ← cmpS_gt]
      exact gt_l W (hide (fun W => ask_t_gt W (hide (fun W => rank_any k W x0 x1 hx)) (hide (fun W => rank_any k W y0 y1 hy)) (hide (fun W => gt_c W))))
theorem le_any {w e f P Q b x y : Int} (k : Kd w e f P Q b) (W : World) (x0 : 0 ≤ x) (x1 : x < 18446744073709551616) (y0 : 0 ≤ y) (y1 : y < 18446744073709551616) : Calls Tryz.prog 70 #[.int .i64 w, .int .u64 x, .int .u64 y] W fun r W' => r = .returned (.bool (cmpB P Q x y == -1 || cmpB P Q x y == 0)) ∧ Below W.heap.size W W' := by
  unfold cmpB
  by_cases hx : oK P Q x = 3
  · rw [if_pos (Or.inl hx)]
    by_cases hy : oK P Q y = 3
    · exact le_l W (hide (fun W => ask_f1 W (hide (fun W => rank_nan k W x0 x1 hx)) (hide (fun W => rank_nan k W y0 y1 hy))))
    · exact le_l W (hide (fun W => ask_f1 W (hide (fun W => rank_nan k W x0 x1 hx)) (hide (fun W => rank_any k W y0 y1 hy))))
  · by_cases hy : oK P Q y = 3
    · rw [if_pos (Or.inr hy)]
      exact le_l W (hide (fun W => ask_f2 W (hide (fun W => rank_any k W x0 x1 hx)) (hide (fun W => rank_nan k W y0 y1 hy))))
    · rw [if_neg (by omega), ← cmpS_le]
      exact le_l W (hide (fun W => ask_t_le W (hide (fun W => rank_any k W x0 x1 hx)) (hide (fun W => rank_any k W y0 y1 hy)) (hide (fun W => le_c W))))
theorem ge_any {w e f P Q b x y : Int} (k : Kd w e f P Q b) (W : World) (x0 : 0 ≤ x) (x1 : x < 18446744073709551616) (y0 : 0 ≤ y) (y1 : y < 18446744073709551616) : Calls Tryz.prog 71 #[.int .i64 w, .int .u64 x, .int .u64 y] W fun r W' => r = .returned (.bool (cmpB P Q x y == 1 || cmpB P Q x y == 0)) ∧ Below W.heap.size W W' := by
  unfold cmpB
  by_cases hx : oK P Q x = 3
  · rw [if_pos (Or.inl hx)]
    by_cases hy : oK P Q y = 3
    · exact ge_l W (hide (fun W => ask_f1 W (hide (fun W => rank_nan k W x0 x1 hx)) (hide (fun W => rank_nan k W y0 y1 hy))))
    · exact ge_l W (hide (fun W => ask_f1 W (hide (fun W => rank_nan k W x0 x1 hx)) (hide (fun W => rank_any k W y0 y1 hy))))
  · by_cases hy : oK P Q y = 3
    · rw [if_pos (Or.inr hy)]
      exact ge_l W (hide (fun W => ask_f2 W (hide (fun W => rank_any k W x0 x1 hx)) (hide (fun W => rank_nan k W y0 y1 hy))))
    · rw [if_neg (by omega), ← cmpS_ge]
      exact ge_l W (hide (fun W => ask_t_ge W (hide (fun W => rank_any k W x0 x1 hx)) (hide (fun W => rank_any k W y0 y1 hy)) (hide (fun W => ge_c W))))
theorem ne_any {w e f P Q b x y : Int} (k : Kd w e f P Q b) (W : World) (x0 : 0 ≤ x) (x1 : x < 18446744073709551616) (y0 : 0 ≤ y) (y1 : y < 18446744073709551616) : Calls Tryz.prog 67 #[.int .i64 w, .int .u64 x, .int .u64 y] W fun r W' => r = .returned (.bool (cmpB P Q x y != 0)) ∧ Below W.heap.size W W' :=
  ne_wt W (hide (okn_t k)) (hide (fun W => eq_any k W x0 x1 y0 y1))

end Go.Proofs.YtpbgpdmffejdgaaGreatDoor
namespace Go.Proofs.YtpbgpdmffejdgaaGreatDoor
open Go.RowKit
open Go.Proofs.YtpbgpdmffejdgaaGreatDoor.W

theorem cmpS_swap (a b : Int) : cmpS b a = -cmpS a b := by
  unfold cmpS
  rcases Int.lt_trichotomy a b with h | h | h
  · rw [if_pos h, if_neg (by omega), if_neg (by omega)]; rfl
  · subst h; rw [if_neg (by omega), if_pos rfl]; rfl
  · rw [if_pos h, if_neg (by omega), if_neg (by omega)]
theorem cmpS_in (a b : Int) : cmpS a b = -1 ∧ a < b ∨ cmpS a b = 0 ∧ a = b ∨ cmpS a b = 1 ∧ b < a := by
  unfold cmpS
  rcases Int.lt_trichotomy a b with h | h | h
  · rw [if_pos h]; exact Or.inl ⟨rfl, h⟩
  · rw [if_neg (by omega), if_pos h]; exact Or.inr (Or.inl ⟨rfl, h⟩)
  · rw [if_neg (by omega), if_neg (by omega)]; exact Or.inr (Or.inr ⟨rfl, h⟩)
theorem cmpB_num {P Q x y : Int} (hx : oK P Q x ≠ 3) (hy : oK P Q y ≠ 3) : cmpB P Q x y = cmpS (sc P Q x) (sc P Q y) := by
  unfold cmpB
  rw [if_neg (by omega)]
theorem cmpB_nan {P Q x y : Int} (h : oK P Q x = 3 ∨ oK P Q y = 3) : cmpB P Q x y = 2 := by
  unfold cmpB
  rw [if_pos h]
theorem cmpB_ways (P Q x y : Int) : cmpB P Q x y = 2 ∧ cmpB P Q y x = 2 ∧ (oK P Q x = 3 ∨ oK P Q y = 3) ∨ oK P Q x ≠ 3 ∧ oK P Q y ≠ 3 ∧ (cmpB P Q x y = -1 ∧ cmpB P Q y x = 1 ∧ sc P Q x < sc P Q y ∨ cmpB P Q x y = 0 ∧ cmpB P Q y x = 0 ∧ sc P Q x = sc P Q y ∨ cmpB P Q x y = 1 ∧ cmpB P Q y x = -1 ∧ sc P Q y < sc P Q x) := by
  by_cases hx : oK P Q x = 3
  · exact Or.inl ⟨cmpB_nan (Or.inl hx), cmpB_nan (Or.inr hx), Or.inl hx⟩
  · by_cases hy : oK P Q y = 3
    · exact Or.inl ⟨cmpB_nan (Or.inr hy), cmpB_nan (Or.inl hy), Or.inr hy⟩
    · refine Or.inr ⟨hx, hy, ?_⟩
      rw [cmpB_num hx hy, cmpB_num hy hx]
      have := cmpS_swap (sc P Q x) (sc P Q y)
      have := cmpS_in (sc P Q x) (sc P Q y)
      omega

/-- Two floats that are the same number are the same bits, or noughts. -/
theorem same_bits {w e f P Q b x y : Int} (k : Kd w e f P Q b) (hx : oK P Q x ≠ 3) (hy : oK P Q y ≠ 3) (h : sc P Q x = sc P Q y) :
    sg P Q x = sg P Q y ∧ cutN f P Q x = cutN f P Q y ∨ sg P Q x = true ∧ sg P Q y = false ∧ cutN f P Q x = P * Q ∧ cutN f P Q y = 0 ∨ sg P Q x = false ∧ sg P Q y = true ∧ cutN f P Q x = 0 ∧ cutN f P Q y = P * Q := by
  obtain ⟨p1, p2, q1, q2⟩ := k.pos
  have z : ∀ n : Bool, fl f P Q n ((0 : Nat) : Int) = if n then P * Q else 0 := by
    intro n
    unfold fl put
    rw [if_neg k.f0]
    cases n <;> simp
  rw [cut_fl k hx, cut_fl k hy, ← oN_sg hx, ← oN_sg hy]
  unfold sc at h
  cases hn : oN P Q x <;> cases hm : oN P Q y <;> rw [hn, hm] at h <;> simp at h
  · left; rw [h]; exact ⟨rfl, rfl⟩
  · right; right
    have h1 : oc P Q x = 0 := by omega
    have h2 : oc P Q y = 0 := by omega
    rw [h1, h2, z, z]
    exact ⟨rfl, rfl, rfl, rfl⟩
  · right; left
    have h1 : oc P Q x = 0 := by omega
    have h2 : oc P Q y = 0 := by omega
    rw [h1, h2, z, z]
    exact ⟨rfl, rfl, rfl, rfl⟩
  · left; rw [h]; exact ⟨rfl, rfl⟩

theorem cutN_mod {w e f P Q b : Int} (k : Kd w e f P Q b) : ∃ m : Nat, P * Q = ((2 ^ m : Nat) : Int) ∧ ∀ X : Nat, cutN f P Q (X : Int) = ((X % 2 ^ (m + 1) : Nat) : Int) := by
  rcases k with ⟨-, -, rfl, rfl, rfl, -⟩ | ⟨-, -, rfl, rfl, rfl, -⟩
  · refine ⟨31, by decide, fun X => ?_⟩
    show (if (23 : Int) = 0 then 0 else (X : Int) % 4294967296) = ((X % 4294967296 : Nat) : Int)
    rw [if_neg (by decide)]
    omega
  · refine ⟨63, by decide, fun X => ?_⟩
    show (if (52 : Int) = 0 then 0 else (X : Int) % 18446744073709551616) = ((X % 18446744073709551616 : Nat) : Int)
    rw [if_neg (by decide)]
    omega
/-- Of the same number's bits the ones that are in one of them, and in both. -/
theorem or_and_bits {w e f P Q b x y : Int} (k : Kd w e f P Q b) (x0 : 0 ≤ x) (x1 : x < 18446744073709551616) (y0 : 0 ≤ y) (y1 : y < 18446744073709551616) (hx : oK P Q x ≠ 3) (hy : oK P Q y ≠ 3) (h : sc P Q x = sc P Q y) :
    ∃ u v, bits .or .u64 x y = u ∧ bits .and .u64 x y = v ∧ 0 ≤ u ∧ u < 18446744073709551616 ∧ 0 ≤ v ∧ v < 18446744073709551616 ∧ cutN f P Q u = (if sg P Q x = true then cutN f P Q x else cutN f P Q y) ∧ cutN f P Q v = (if sg P Q x = false then cutN f P Q x else cutN f P Q y) := by
  have hs := same_bits k hx hy h
  obtain ⟨m, hm, hc⟩ := cutN_mod k
  clear h hx hy
  obtain ⟨X, rfl⟩ := Int.eq_ofNat_of_zero_le x0
  obtain ⟨Y, rfl⟩ := Int.eq_ofNat_of_zero_le y0
  have hX : X < 2 ^ 64 := by omega
  have hY : Y < 2 ^ 64 := by omega
  have ho : X ||| Y < 2 ^ 64 := Nat.or_lt_two_pow hX hY
  have ha : X &&& Y < 2 ^ 64 := Nat.and_lt_two_pow _ hY
  refine ⟨_, _, Go.bits_or_u64_nat X Y (by omega) (by omega), Go.bits_and_u64_nat X Y (by omega) (by omega), by omega, by omega, by omega, by omega, ?_, ?_⟩
  all_goals
    rw [hc, hc, hc] at *
    first | rw [Nat.or_mod_two_pow] | rw [Nat.and_mod_two_pow]
    generalize X % 2 ^ (m + 1) = A at *
    generalize Y % 2 ^ (m + 1) = B at *
    rw [hm] at hs
    rcases hs with ⟨h1, h2⟩ | ⟨h1, h2, h3, h4⟩ | ⟨h1, h2, h3, h4⟩
    · have : A = B := by omega
      subst this
      first | rw [Nat.or_self] | rw [Nat.and_self]
      split <;> rfl
    · have e1 : A = 2 ^ m := by omega
      have e2 : B = 0 := by omega
      rw [h1, e1, e2]
      simp
    · have e1 : A = 0 := by omega
      have e2 : B = 2 ^ m := by omega
      rw [h1, e1, e2]
      simp

theorem min_any {w e f P Q b x y : Int} (k : Kd w e f P Q b) (W : World) (x0 : 0 ≤ x) (x1 : x < 18446744073709551616) (y0 : 0 ≤ y) (y1 : y < 18446744073709551616) : Calls Tryz.prog 89 #[.int .i64 w, .int .u64 x, .int .u64 y] W fun r W' => r = .returned (.int .u64 (pickB f P Q (-1) true x y)) ∧ Below W.heap.size W W' := by
  have HL := fun W => lt_any k W x0 x1 y0 y1
  have HM := fun W => lt_any k W y0 y1 x0 x1
  have HE := fun W => eq_any k W x0 x1 y0 y1
  unfold pickB
  rcases cmpB_ways P Q x y with ⟨e1, e2, -⟩ | ⟨hx, hy, h⟩
  · rw [e1] at HL HE
    rw [e2] at HM
    rw [if_pos e1]
    exact min_l W (hide (fun W => pick_min_n W (hide HL) (hide HM) (hide HE) (hide (fun W => nan_any k.wd W))))
  · rcases h with ⟨e1, e2, h⟩ | ⟨e1, e2, h⟩ | ⟨e1, e2, h⟩ <;> rw [e1] at HL HE <;> rw [e2] at HM <;> rw [e1]
    · rw [if_neg (by omega), if_pos (Or.inl (by omega))]
      exact min_l W (hide (fun W => pick_min_a W (hide HL) (hide (fun W => cut_any x k.wd W x0 x1))))
    · obtain ⟨u, v, hu, hv, u0, u1, v0, v1, cu, cv⟩ := or_and_bits k x0 x1 y0 y1 hx hy h
      have e : (if (0 : Int) = 2 then nanB f P Q else if (0 : Int) = (-1) ∨ ((0 : Int) = 0 ∧ sg P Q x = true) then cutN f P Q x else cutN f P Q y) = cutN f P Q u := by
        rw [cu, if_neg (by omega)]
        cases sg P Q x <;> simp
      rw [e]
      exact min_l W (hide (fun W => pick_min_e W (hide HL) (hide HM) (hide HE) (hide (fun W => or_c W hu)) (hide (fun W => cut_any _ k.wd W u0 u1))))
    · rw [if_neg (by omega), if_neg (by omega)]
      exact min_l W (hide (fun W => pick_min_b W (hide HL) (hide HM) (hide (fun W => cut_any y k.wd W y0 y1))))
theorem max_any {w e f P Q b x y : Int} (k : Kd w e f P Q b) (W : World) (x0 : 0 ≤ x) (x1 : x < 18446744073709551616) (y0 : 0 ≤ y) (y1 : y < 18446744073709551616) : Calls Tryz.prog 90 #[.int .i64 w, .int .u64 x, .int .u64 y] W fun r W' => r = .returned (.int .u64 (pickB f P Q 1 false x y)) ∧ Below W.heap.size W W' := by
  have HL := fun W => gt_any k W x0 x1 y0 y1
  have HM := fun W => gt_any k W y0 y1 x0 x1
  have HE := fun W => eq_any k W x0 x1 y0 y1
  unfold pickB
  rcases cmpB_ways P Q x y with ⟨e1, e2, -⟩ | ⟨hx, hy, h⟩
  · rw [e1] at HL HE
    rw [e2] at HM
    rw [if_pos e1]
    exact max_l W (hide (fun W => pick_max_n W (hide HL) (hide HM) (hide HE) (hide (fun W => nan_any k.wd W))))
  · rcases h with ⟨e1, e2, h⟩ | ⟨e1, e2, h⟩ | ⟨e1, e2, h⟩ <;> rw [e1] at HL HE <;> rw [e2] at HM <;> rw [e1]
    · rw [if_neg (by omega), if_neg (by omega)]
      exact max_l W (hide (fun W => pick_max_b W (hide HL) (hide HM) (hide (fun W => cut_any y k.wd W y0 y1))))
    · obtain ⟨u, v, hu, hv, u0, u1, v0, v1, cu, cv⟩ := or_and_bits k x0 x1 y0 y1 hx hy h
      have e : (if (0 : Int) = 2 then nanB f P Q else if (0 : Int) = 1 ∨ ((0 : Int) = 0 ∧ sg P Q x = false) then cutN f P Q x else cutN f P Q y) = cutN f P Q v := by
        rw [cv, if_neg (by omega)]
        cases sg P Q x <;> simp
      rw [e]
      exact max_l W (hide (fun W => pick_max_e W (hide HL) (hide HM) (hide HE) (hide (fun W => and_c W hv)) (hide (fun W => cut_any _ k.wd W v0 v1))))
    · rw [if_neg (by omega), if_pos (Or.inl (by omega))]
      exact max_l W (hide (fun W => pick_max_a W (hide HL) (hide (fun W => cut_any x k.wd W x0 x1))))

end Go.Proofs.YtpbgpdmffejdgaaGreatDoor
namespace Go.Proofs.YtpbgpdmffejdgaaGreatDoor
open Go.RowKit
open Go.Proofs.YtpbgpdmffejdgaaGreatDoor.W

theorem cmp_scale (x y t : Nat) : cmpN (x * 2 ^ t) (y * 2 ^ t) = cmpN x y := by
  have h := Nat.two_pow_pos t
  unfold cmpN
  simp only [Nat.mul_lt_mul_right h]
/-- What is cut off is the same float. -/
theorem cut_same {w e f P Q b : Int} (k : Kd w e f P Q b) (x : Int) : 0 ≤ cutN f P Q x ∧ cutN f P Q x < 18446744073709551616 ∧ oK P Q (cutN f P Q x) = oK P Q x ∧ sg P Q (cutN f P Q x) = sg P Q x ∧ sc P Q (cutN f P Q x) = sc P Q x ∧ cutN f P Q (cutN f P Q x) = cutN f P Q x := by
  obtain ⟨p1, p2, q1, q2⟩ := k.pos
  obtain ⟨u, v⟩ := exp_in (x / P) (show 1 ≤ Q by omega)
  obtain ⟨u', v'⟩ := exp_in x (show 1 ≤ P by omega)
  obtain ⟨r0, r1, r2, r3, r4⟩ := put_in (n := sg P Q x) k u v u' v'
  rw [cut_put k.wd.sz] at r0 r1 r2 r3 r4
  refine ⟨r0, r1, ?_, r2, ?_, ?_⟩
  · unfold oK; rw [r3, r4]
  · unfold sc oN oc; rw [r2, r3, r4]
  · rw [← cut_put k.wd.sz (cutN f P Q x), r2, r3, r4, cut_put k.wd.sz]
end Go.Proofs.YtpbgpdmffejdgaaGreatDoor
namespace Go.Proofs.YtpbgpdmffejdgaaGreatDoor
open Go.RowKit
open Go.Proofs.YtpbgpdmffejdgaaGreatDoor.W

/-- A number's whole part. -/
def wq (M : Nat) : Nat := M / 2 ^ Z5
/-- What it loses by that. -/
def wr (M : Nat) : Nat := M % 2 ^ Z5
/-- Twice what is lost, held against one. -/
def wh (M : Nat) : Int := cmpN (wr M * 2 ^ 1) (2 ^ Z5)
/-- Whether it goes away from nought: 1 above, 2 below, 3 toward nought, 4 to what is nearest. -/
def upN (way : Int) (n : Bool) (M : Nat) : Bool :=
  if way = 1 then decide (wr M ≠ 0) && !n else if way = 2 then decide (wr M ≠ 0) && n else if way = 4 then (decide (wh M = 1) || (decide (wh M = 0) && decide (wq M % 2 = 1))) else false
def wholeN (way : Int) (n : Bool) (M : Nat) : Nat := wq M + (upN way n M).toNat
/-- The float that is made whole. -/
def makeB (f P Q b way x : Int) : Int :=
  if oK P Q x = 3 then nanB f P Q else if oK P Q x ≠ 1 then cutN f P Q x else rd f P Q b (oN P Q x) (wholeN way (oN P Q x) (oM f P Q b x) * 2 ^ Z5)

theorem w_split (M : Nat) : wq M * 2 ^ Z5 + wr M = M := by
  unfold wq wr
  rw [Nat.mul_comm]
  exact Nat.div_add_mod M (2 ^ Z5)
theorem cmpN_in (v u : Nat) : cmpN v u = -1 ∧ v < u ∨ cmpN v u = 0 ∧ v = u ∨ cmpN v u = 1 ∧ u < v := by
  unfold cmpN
  by_cases h : v < u
  · rw [if_pos h]; exact Or.inl ⟨rfl, h⟩
  · rw [if_neg h]
    by_cases g : u < v
    · rw [if_pos g]; exact Or.inr (Or.inr ⟨rfl, g⟩)
    · rw [if_neg g]; exact Or.inr (Or.inl ⟨rfl, by omega⟩)

theorem mag_dn (k : Nat) (hk : k ≤ 5000) {X S : Int} (hX : X = -(k : Int)) : mag X S = S.toNat * 2 ^ (Z5 - k) ∧ 2 ^ Z5 = 2 ^ k * 2 ^ (Z5 - k) := by
  constructor
  · unfold mag
    rw [show (X + 5000).toNat = Z5 - k by unfold Z5; omega]
  · rw [← Nat.pow_add, show k + (Z5 - k) = Z5 by unfold Z5; omega]
theorem low_dn (k : Nat) (hk : k ≤ 5000) {X S : Int} (hX : X = -(k : Int)) : wq (mag X S) = S.toNat / 2 ^ k ∧ wr (mag X S) = S.toNat % 2 ^ k * 2 ^ (Z5 - k) ∧ wh (mag X S) = cmpN (S.toNat % 2 ^ k * 2 ^ 1) (2 ^ k) := by
  obtain ⟨h1, h2⟩ := mag_dn k hk (S := S) hX
  have hp := Nat.two_pow_pos (Z5 - k)
  have hr : wr (mag X S) = S.toNat % 2 ^ k * 2 ^ (Z5 - k) := by
    unfold wr
    rw [h1, h2, Nat.mul_mod_mul_right]
  refine ⟨?_, hr, ?_⟩
  · unfold wq
    rw [h1, h2, Nat.mul_div_mul_right _ _ hp]
  · unfold wh
    rw [hr, h2, Nat.mul_right_comm]
    exact cmp_scale _ _ _
theorem low_dn0 (k : Nat) (hk : k ≤ 5000) {X S : Int} (hX : X = -(k : Int)) : (wr (mag X S) ≠ 0) = (S.toNat % 2 ^ k ≠ 0) := by
  obtain ⟨-, h, -⟩ := low_dn k hk (S := S) hX
  have hp := Nat.two_pow_pos (Z5 - k)
  rw [h]
  refine propext ⟨fun a e => a (by rw [e, Nat.zero_mul]), fun a e => ?_⟩
  rcases Nat.mul_eq_zero.mp e with h | h
  · exact a h
  · omega
theorem low_up {X S : Int} (hX : 0 ≤ X) : wq (mag X S) = S.toNat * 2 ^ X.toNat ∧ wr (mag X S) = 0 ∧ wh (mag X S) = -1 := by
  have hm : mag X S = S.toNat * 2 ^ X.toNat * 2 ^ Z5 := by
    unfold mag
    rw [show (X + 5000).toNat = X.toNat + Z5 by unfold Z5; omega, Nat.pow_add, Nat.mul_assoc]
  have hp := Nat.two_pow_pos Z5
  have hr : wr (mag X S) = 0 := by unfold wr; rw [hm, Nat.mul_mod_left]
  refine ⟨by unfold wq; rw [hm, Nat.mul_div_cancel _ hp], hr, ?_⟩
  unfold wh cmpN
  rw [hr, Nat.zero_mul, if_pos hp]
theorem wh_none {M : Nat} (h : wr M = 0) : wh M = -1 := by
  unfold wh cmpN
  rw [h, Nat.zero_mul, if_pos (Nat.two_pow_pos Z5)]
theorem up_none {M : Nat} (way : Int) (n : Bool) (h : wr M = 0) : upN way n M = false := by
  unfold upN
  rw [wh_none h, h]
  simp
theorem whole_none {M : Nat} (way : Int) (n : Bool) (h : wr M = 0) : wholeN way n M * 2 ^ Z5 = M := by
  have h1 := w_split M
  rw [h, Nat.add_zero] at h1
  unfold wholeN
  rw [up_none way n h, show false.toNat = 0 from rfl, Nat.add_zero]
  exact h1

/-- The halves of 2^k in S, what is lost below them. -/
theorem near_half (S k : Nat) : (decide (S / 2 ^ k % 2 = 1) && (decide (S % 2 ^ k ≠ 0) || decide (S / 2 ^ (k + 1) % 2 = 1))) = (decide (cmpN (S % 2 ^ (k + 1) * 2 ^ 1) (2 ^ (k + 1)) = 1) || (decide (cmpN (S % 2 ^ (k + 1) * 2 ^ 1) (2 ^ (k + 1)) = 0) && decide (S / 2 ^ (k + 1) % 2 = 1))) := by
  have hp := Nat.two_pow_pos k
  have e1 : S / 2 ^ k / 2 = S / 2 ^ (k + 1) := by rw [Nat.div_div_eq_div_mul, Nat.pow_succ]
  have e2 : S % 2 ^ (k + 1) = S / 2 ^ k % 2 * 2 ^ k + S % 2 ^ k := by
    have := Nat.mod_pow_succ (x := S) (b := 2) (k := k)
    rw [this, Nat.mul_comm]; omega
  have hl := Nat.mod_lt S hp
  rw [e2, Nat.pow_succ 2 k]
  generalize S / (2 ^ k * 2) % 2 = o
  generalize S % 2 ^ k = r at *
  generalize hb : S / 2 ^ k % 2 = a
  generalize 2 ^ k = p at *
  have ha : a = 0 ∨ a = 1 := by omega
  rcases ha with rfl | rfl
  · rcases cmpN_in ((0 * p + r) * 2 ^ 1) (p * 2) with ⟨e, h⟩ | ⟨e, h⟩ | ⟨e, h⟩ <;> rw [e]
    · simp
    · exfalso; omega
    · exfalso; omega
  · rcases cmpN_in ((1 * p + r) * 2 ^ 1) (p * 2) with ⟨e, h⟩ | ⟨e, h⟩ | ⟨e, h⟩ <;> rw [e]
    · exfalso; omega
    · have : r = 0 := by omega
      subst this
      simp
    · have : r ≠ 0 := by omega
      simp [this]

end Go.Proofs.YtpbgpdmffejdgaaGreatDoor
namespace Go.Proofs.YtpbgpdmffejdgaaGreatDoor
open Go.RowKit
open Go.Proofs.YtpbgpdmffejdgaaGreatDoor.W

theorem broken_any {w e f P Q b K X S : Int} (k : Kd w e f P Q b) (n : Bool) (h : Prt f P Q b K X S) (W : World) :
    Calls Tryz.prog 231 #[.agg #[.bool n, .int .i64 K, .int .i64 X, .int .u64 S]] W fun r W' => r = .returned (.bool (decide (wr (mag X S) ≠ 0))) ∧ Below W.heap.size W W' := by
  obtain ⟨x0, x1, s0, s1, s2⟩ := h.in k
  have hv := small_w2 s0 (by omega)
  have e : decide (wr (mag X S) ≠ 0) = lostB S.toNat (-X) := by
    unfold lostB
    by_cases hX : 0 ≤ X
    · rw [(low_up hX).2.1, show (-X).toNat = 0 by omega]
      simp [Nat.mod_one]
    · have := low_dn0 (-X).toNat (by omega) (X := X) (S := S) (by omega)
      simp only [this]
  rw [e]
  exact broken_l W (hide (fun W => of_n S W s0 (by omega))) (i64_id (x := -X) (by omega) (by omega)) (hide (fun W => right_n S.toNat (-X) W hv))

theorem and_1 {z : Int} (h0 : 0 ≤ z) (h1 : z < 18446744073709551616) : bits .and .u64 z 1 = z % 2 := and_mask 1 z 1 h0 h1 (by decide) (by omega)
theorem odd_b (v : Nat) : ((v : Int) % 2 == 1) = decide (v % 2 = 1) := by
  by_cases h : v % 2 = 1
  · have : (v : Int) % 2 = 1 := by omega
    simp [h, this]
  · have : (v : Int) % 2 = 0 := by omega
    simp [h, this]
theorem split_any {w e f P Q b X S : Int} (k : Kd w e f P Q b) (n : Bool) (h : Prt f P Q b 1 X S) (hb : wr (mag X S) ≠ 0) :
    ∃ a m o : Bool, (a && (m || o)) = upN 4 n (mag X S) ∧ wq (mag X S) < 9007199254740992 ∧ wq (mag X S) + 1 ≤ 2 ^ f.toNat ∧ Ct 232 #[.agg #[.bool n, .int .i64 1, .int .i64 X, .int .u64 S]] (.tuple #[.int .u64 (wq (mag X S) : Nat), .agg #[.bool a, .bool m, .bool o]]) := by
  obtain ⟨x0, x1, s0, s1, s2⟩ := h.in k
  have hX : X < 0 := by
    refine Decidable.byContradiction fun hc => hb ?_
    exact (low_up (by omega)).2.1
  obtain ⟨j, hj⟩ : ∃ j : Nat, X = -((j + 1 : Nat) : Int) := ⟨(-X).toNat - 1, by omega⟩
  obtain ⟨hq, hr, hh⟩ := low_dn (j + 1) (by omega) (S := S) hj
  have hp := Nat.two_pow_pos j
  have hS := pow_int k.pow.1 s0 s1
  have hhv : S.toNat / 2 ^ j < 18446744073709551616 := Nat.lt_of_le_of_lt (Nat.div_le_self _ _) (by omega)
  have hq2 : S.toNat / 2 ^ (j + 1) = S.toNat / 2 ^ j / 2 := by rw [Nat.div_div_eq_div_mul, Nat.pow_succ]
  have hqb : S.toNat / 2 ^ (j + 1) < 2 ^ f.toNat := by
    rw [Nat.div_lt_iff_lt_mul (Nat.two_pow_pos _)]
    have h1 : 2 ^ (f.toNat + 1) ≤ 2 ^ f.toNat * 2 ^ (j + 1) := by
      rw [Nat.pow_succ 2 j, Nat.pow_succ 2 f.toNat]
      have : 2 ^ f.toNat * 1 ≤ 2 ^ f.toNat * 2 ^ j := Nat.mul_le_mul_left _ hp
      rw [← Nat.mul_assoc]
      omega
    omega
  refine ⟨decide (S.toNat / 2 ^ j % 2 = 1), decide (S.toNat % 2 ^ j ≠ 0), decide (S.toNat / 2 ^ (j + 1) % 2 = 1), ?_, ?_, by rw [hq]; omega, ?_⟩
  · have := near_half S.toNat j
    rw [this]
    unfold upN
    rw [if_neg (by omega), if_neg (by omega), if_pos rfl, hh, hq]
  · rw [hq, hq2]
    have := Nat.div_le_self S.toNat (2 ^ j)
    omega
  · have HR := fun W => right_n S.toNat (j : Int) W (small_w2 s0 (by omega))
    have e1 : shrN S.toNat (j : Int) = S.toNat / 2 ^ j := by unfold shrN; rw [Int.toNat_natCast]
    have e2 : lostB S.toNat (j : Int) = decide (S.toNat % 2 ^ j ≠ 0) := by unfold lostB; rw [Int.toNat_natCast]
    rw [e1, e2, lo_small hhv] at HR
    have := fun W => split_l (n1 := n) (K1 := 1) (X1 := X) (S1 := S) (E := -X) (E1 := (j : Int)) (n := ((wq (mag X S) : Nat) : Int)) (a := ((S.toNat / 2 ^ j : Nat) : Int) % 2) (o := ((wq (mag X S) : Nat) : Int) % 2) W (hide (fun W => of_n S W s0 (by omega))) (i64_id (by omega) (by omega))
      (by rw [show -X - 1 = (j : Int) by omega]; exact i64_id (by omega) (by omega)) (hide HR) (by rw [hq, hq2]; omega) (and_1 (by omega) (by omega)) (and_1 (by omega) (by rw [hq]; have := Nat.div_le_self S.toNat (2 ^ (j + 1)); omega))
    rw [odd_b, odd_b, hq] at this
    rw [hq]
    exact this

theorem make_keep {w e f P Q b X S : Int} (k : Kd w e f P Q b) (x way : Int) (h : Prt f P Q b (oK P Q x) X S) (hm : mag X S = oM f P Q b x) (hb : wr (mag X S) = 0) :
    narrowN f P Q b (oN P Q x) (oK P Q x) X S = makeB f P Q b way x := by
  rw [narrow_rd k _ h]
  unfold makeB
  rcases kind_oc k x with ⟨h1, -, -⟩ | ⟨h1, h2, -⟩ | ⟨h1, -, -, -⟩ | ⟨h1, h2, -⟩
  · rw [if_neg (by omega), if_neg (by omega), if_neg (by omega), if_pos h1]; rfl
  · rw [if_neg (by omega), if_neg (by omega), if_pos h1, if_neg (by omega), if_pos (by omega), cut_fl k (by omega), h2]
    exact put_inf k _
  · rw [if_neg (by omega), if_pos h1, if_neg (by omega), if_neg (by omega), ← hm, whole_none way _ hb]
  · rw [if_pos h1, if_neg (by omega), if_pos (by omega), cut_fl k (by omega), h2]
    exact put_nought _

end Go.Proofs.YtpbgpdmffejdgaaGreatDoor
namespace Go.Proofs.YtpbgpdmffejdgaaGreatDoor
open Go.RowKit
open Go.Proofs.YtpbgpdmffejdgaaGreatDoor.W

theorem pack_whole {w e f P Q b : Int} (k : Kd w e f P Q b) (n : Bool) (m : Nat) (hm : m < 18446744073709551616) : Ct 160 #[.int .i64 w, .bool n, .agg #[.int .u64 (hi m), .int .u64 (lo m)], .int .i64 0, .bool false] (.int .u64 (rd f P Q b n (m * 2 ^ Z5))) := by
  have h := fun W => pack_at k n m (by unfold W2; omega) (E := 0) (by omega) (by omega) W
  rw [Z5_at] at h
  exact h
theorem of_whole (m : Nat) (hm : m < 18446744073709551616) : Ct 161 #[.int .u64 (m : Int)] (.agg #[.int .u64 (hi m), .int .u64 (lo m)]) := fun W => by
  have h := of_n (m : Int) W (by omega) (by omega)
  rw [Int.toNat_natCast] at h
  exact h
theorem of_next (m : Nat) (hm : m + 1 < 18446744073709551616) : Ct 161 #[.int .u64 ((m : Int) + 1)] (.agg #[.int .u64 (hi (m + 1)), .int .u64 (lo (m + 1))]) := fun W => by
  have h := of_n ((m : Int) + 1) W (by omega) (by omega)
  rw [show ((m : Int) + 1).toNat = m + 1 by omega] at h
  exact h
theorem near_c (n a m o : Bool) : Ct 154 #[.bool n, .agg #[.bool a, .bool m, .bool o]] (.bool (a && (m || o))) := by
  cases a
  · exact fun W => near_c0 W
  · cases m
    · exact fun W => near_c2 W
    · exact fun W => near_c1 W
theorem ceil_any {w e f P Q b x : Int} (k : Kd w e f P Q b) (W : World) (x0 : 0 ≤ x) (x1 : x < 18446744073709551616) :
    Calls Tryz.prog 80 #[.int .i64 w, .int .u64 x] W fun r W' => r = .returned (.int .u64 (makeB f P Q b 1 x)) ∧ Below W.heap.size W W' := by
  obtain ⟨X, S, ho, hp, hm⟩ := open_kd k x
  obtain ⟨-, -, s0, -, s2⟩ := hp.in k
  have HO := fun W => open_any x k.wd W x0 x1 ho
  have HK := fun W => broken_any k (oN P Q x) hp W
  refine ceil_l W (hide fun W => ?_)
  by_cases hb : wr (mag X S) = 0
  · rw [show decide (wr (mag X S) ≠ 0) = false from df (fun h => h hb)] at HK
    have HN := fun W => narrow_any k (oN P Q x) (oK P Q x) X S s0 (by omega) W
    rw [make_keep k x 1 hp hm hb] at HN
    exact next_ceil_w W (hide HO) (hide HK) (hide HN)
  · have hd : decide (wr (mag X S) ≠ 0) = true := dt hb
    rw [hd] at HK
    have hK : oK P Q x = 1 := by
      refine Decidable.byContradiction fun hc => hb ?_
      rw [hp.mag0 hc]
      exact Nat.zero_mod _
    have hB : makeB f P Q b 1 x = rd f P Q b (oN P Q x) (wholeN 1 (oN P Q x) (mag X S) * 2 ^ Z5) := by
      unfold makeB
      rw [if_neg (by omega), if_neg (by omega), hm]
    rw [hK] at hp HO HK
    obtain ⟨a, m, o, hu, hq, -, HS⟩ := split_any k (oN P Q x) hp hb
    have HF : Ct 151 #[.bool (oN P Q x), .agg #[.bool a, .bool m, .bool o]] (.bool (upN 1 (oN P Q x) (mag X S))) := by
      rw [show upN 1 (oN P Q x) (mag X S) = !oN P Q x by unfold upN; rw [if_pos rfl, hd, Bool.true_and]]
      exact fun W => ceil_c W
    by_cases hup : upN 1 (oN P Q x) (mag X S) = true
    · rw [hup] at HF
      rw [hB, show wholeN 1 (oN P Q x) (mag X S) = wq (mag X S) + 1 by unfold wholeN; rw [hup]; rfl]
      exact next_ceil_t W (hide HO) (hide HK) HS HF (u64_id (by omega) (by omega)) (of_next _ (by omega)) (pack_whole k _ _ (by omega))
    · have hup := Bool.eq_false_iff.mpr hup
      rw [hup] at HF
      rw [hB, show wholeN 1 (oN P Q x) (mag X S) = wq (mag X S) by unfold wholeN; rw [hup]; rfl]
      exact next_ceil_f W (hide HO) (hide HK) HS HF (of_whole _ (by omega)) (pack_whole k _ _ (by omega))

theorem floor_any {w e f P Q b x : Int} (k : Kd w e f P Q b) (W : World) (x0 : 0 ≤ x) (x1 : x < 18446744073709551616) :
    Calls Tryz.prog 81 #[.int .i64 w, .int .u64 x] W fun r W' => r = .returned (.int .u64 (makeB f P Q b 2 x)) ∧ Below W.heap.size W W' := by
  obtain ⟨X, S, ho, hp, hm⟩ := open_kd k x
  obtain ⟨-, -, s0, -, s2⟩ := hp.in k
  have HO := fun W => open_any x k.wd W x0 x1 ho
  have HK := fun W => broken_any k (oN P Q x) hp W
  refine floor_l W (hide fun W => ?_)
  by_cases hb : wr (mag X S) = 0
  · rw [show decide (wr (mag X S) ≠ 0) = false from df (fun h => h hb)] at HK
    have HN := fun W => narrow_any k (oN P Q x) (oK P Q x) X S s0 (by omega) W
    rw [make_keep k x 2 hp hm hb] at HN
    exact next_floor_w W (hide HO) (hide HK) (hide HN)
  · have hd : decide (wr (mag X S) ≠ 0) = true := dt hb
    rw [hd] at HK
    have hK : oK P Q x = 1 := by
      refine Decidable.byContradiction fun hc => hb ?_
      rw [hp.mag0 hc]
      exact Nat.zero_mod _
    have hB : makeB f P Q b 2 x = rd f P Q b (oN P Q x) (wholeN 2 (oN P Q x) (mag X S) * 2 ^ Z5) := by
      unfold makeB
      rw [if_neg (by omega), if_neg (by omega), hm]
    rw [hK] at hp HO HK
    obtain ⟨a, m, o, hu, hq, -, HS⟩ := split_any k (oN P Q x) hp hb
    have HF : Ct 152 #[.bool (oN P Q x), .agg #[.bool a, .bool m, .bool o]] (.bool (upN 2 (oN P Q x) (mag X S))) := by
      rw [show upN 2 (oN P Q x) (mag X S) = oN P Q x by unfold upN; rw [if_neg (by omega), if_pos rfl, hd, Bool.true_and]]
      exact fun W => floor_c W
    by_cases hup : upN 2 (oN P Q x) (mag X S) = true
    · rw [hup] at HF
      rw [hB, show wholeN 2 (oN P Q x) (mag X S) = wq (mag X S) + 1 by unfold wholeN; rw [hup]; rfl]
      exact next_floor_t W (hide HO) (hide HK) HS HF (u64_id (by omega) (by omega)) (of_next _ (by omega)) (pack_whole k _ _ (by omega))
    · have hup := Bool.eq_false_iff.mpr hup
      rw [hup] at HF
      rw [hB, show wholeN 2 (oN P Q x) (mag X S) = wq (mag X S) by unfold wholeN; rw [hup]; rfl]
      exact next_floor_f W (hide HO) (hide HK) HS HF (of_whole _ (by omega)) (pack_whole k _ _ (by omega))

theorem trunc_any {w e f P Q b x : Int} (k : Kd w e f P Q b) (W : World) (x0 : 0 ≤ x) (x1 : x < 18446744073709551616) :
    Calls Tryz.prog 82 #[.int .i64 w, .int .u64 x] W fun r W' => r = .returned (.int .u64 (makeB f P Q b 3 x)) ∧ Below W.heap.size W W' := by
  obtain ⟨X, S, ho, hp, hm⟩ := open_kd k x
  obtain ⟨-, -, s0, -, s2⟩ := hp.in k
  have HO := fun W => open_any x k.wd W x0 x1 ho
  have HK := fun W => broken_any k (oN P Q x) hp W
  refine trunc_l W (hide fun W => ?_)
  by_cases hb : wr (mag X S) = 0
  · rw [show decide (wr (mag X S) ≠ 0) = false from df (fun h => h hb)] at HK
    have HN := fun W => narrow_any k (oN P Q x) (oK P Q x) X S s0 (by omega) W
    rw [make_keep k x 3 hp hm hb] at HN
    exact next_trunc_w W (hide HO) (hide HK) (hide HN)
  · have hd : decide (wr (mag X S) ≠ 0) = true := dt hb
    rw [hd] at HK
    have hK : oK P Q x = 1 := by
      refine Decidable.byContradiction fun hc => hb ?_
      rw [hp.mag0 hc]
      exact Nat.zero_mod _
    have hB : makeB f P Q b 3 x = rd f P Q b (oN P Q x) (wholeN 3 (oN P Q x) (mag X S) * 2 ^ Z5) := by
      unfold makeB
      rw [if_neg (by omega), if_neg (by omega), hm]
    rw [hK] at hp HO HK
    obtain ⟨a, m, o, hu, hq, -, HS⟩ := split_any k (oN P Q x) hp hb
    have HF : Ct 153 #[.bool (oN P Q x), .agg #[.bool a, .bool m, .bool o]] (.bool (upN 3 (oN P Q x) (mag X S))) := by
      rw [show upN 3 (oN P Q x) (mag X S) = false by unfold upN; rw [if_neg (by omega), if_neg (by omega), if_neg (by omega)]]
      exact fun W => trunc_c W
    have hup : upN 3 (oN P Q x) (mag X S) = false := by unfold upN; rw [if_neg (by omega), if_neg (by omega), if_neg (by omega)]
    rw [hup] at HF
    rw [hB, show wholeN 3 (oN P Q x) (mag X S) = wq (mag X S) by unfold wholeN; rw [hup]; rfl]
    exact next_trunc_f W (hide HO) (hide HK) HS HF (of_whole _ (by omega)) (pack_whole k _ _ (by omega))

theorem near_any {w e f P Q b x : Int} (k : Kd w e f P Q b) (W : World) (x0 : 0 ≤ x) (x1 : x < 18446744073709551616) :
    Calls Tryz.prog 83 #[.int .i64 w, .int .u64 x] W fun r W' => r = .returned (.int .u64 (makeB f P Q b 4 x)) ∧ Below W.heap.size W W' := by
  obtain ⟨X, S, ho, hp, hm⟩ := open_kd k x
  obtain ⟨-, -, s0, -, s2⟩ := hp.in k
  have HO := fun W => open_any x k.wd W x0 x1 ho
  have HK := fun W => broken_any k (oN P Q x) hp W
  refine near_l W (hide fun W => ?_)
  by_cases hb : wr (mag X S) = 0
  · rw [show decide (wr (mag X S) ≠ 0) = false from df (fun h => h hb)] at HK
    have HN := fun W => narrow_any k (oN P Q x) (oK P Q x) X S s0 (by omega) W
    rw [make_keep k x 4 hp hm hb] at HN
    exact next_near_w W (hide HO) (hide HK) (hide HN)
  · have hd : decide (wr (mag X S) ≠ 0) = true := dt hb
    rw [hd] at HK
    have hK : oK P Q x = 1 := by
      refine Decidable.byContradiction fun hc => hb ?_
      rw [hp.mag0 hc]
      exact Nat.zero_mod _
    have hB : makeB f P Q b 4 x = rd f P Q b (oN P Q x) (wholeN 4 (oN P Q x) (mag X S) * 2 ^ Z5) := by
      unfold makeB
      rw [if_neg (by omega), if_neg (by omega), hm]
    rw [hK] at hp HO HK
    obtain ⟨a, m, o, hu, hq, -, HS⟩ := split_any k (oN P Q x) hp hb
    have HF := near_c (oN P Q x) a m o
    rw [hu] at HF
    by_cases hup : upN 4 (oN P Q x) (mag X S) = true
    · rw [hup] at HF
      rw [hB, show wholeN 4 (oN P Q x) (mag X S) = wq (mag X S) + 1 by unfold wholeN; rw [hup]; rfl]
      exact next_near_t W (hide HO) (hide HK) HS HF (u64_id (by omega) (by omega)) (of_next _ (by omega)) (pack_whole k _ _ (by omega))
    · have hup := Bool.eq_false_iff.mpr hup
      rw [hup] at HF
      rw [hB, show wholeN 4 (oN P Q x) (mag X S) = wq (mag X S) by unfold wholeN; rw [hup]; rfl]
      exact next_near_f W (hide HO) (hide HK) HS HF (of_whole _ (by omega)) (pack_whole k _ _ (by omega))

end Go.Proofs.YtpbgpdmffejdgaaGreatDoor
namespace Go.Proofs.YtpbgpdmffejdgaaGreatDoor
open Go.RowKit
open Go.Proofs.YtpbgpdmffejdgaaGreatDoor.W

/-- A key: twice the signed code, less one with a sign. -/
def kk (P Q x : Int) : Int := 2 * sc P Q x - (if sg P Q x then 1 else 0)
theorem kk_same {w e f P Q b x y : Int} (k : Kd w e f P Q b) (hx : oK P Q x ≠ 3) (hy : oK P Q y ≠ 3) (h : kk P Q x = kk P Q y) : cutN f P Q x = cutN f P Q y := by
  unfold kk at h
  have h1 : sc P Q x = sc P Q y ∧ sg P Q x = sg P Q y := by
    cases hn : sg P Q x <;> cases hm : sg P Q y <;> rw [hn, hm] at h <;> simp at h <;> first | exact ⟨by omega, rfl⟩ | omega
  rcases same_bits k hx hy h1.1 with h2 | h2 | h2
  · exact h2.2
  · rw [h2.1, h2.2.1] at h1; simp at h1
  · rw [h2.1, h2.2.1] at h1; simp at h1
theorem kk_lt {P Q x y : Int} (h : sc P Q x < sc P Q y) : kk P Q x < kk P Q y := by
  unfold kk
  cases sg P Q x <;> cases sg P Q y <;> simp <;> omega
theorem kk_cut {w e f P Q b : Int} (k : Kd w e f P Q b) (x : Int) : kk P Q (cutN f P Q x) = kk P Q x := by
  obtain ⟨-, -, -, a1, a2, -⟩ := cut_same k x
  unfold kk
  rw [a1, a2]

/-- What is picked of two numbers: one of them, cut off, and its key. -/
theorem min_key {w e f P Q b x y : Int} (k : Kd w e f P Q b) (hx : oK P Q x ≠ 3) (hy : oK P Q y ≠ 3) :
    (kk P Q x ≤ kk P Q y → pickB f P Q (-1) true x y = cutN f P Q x) ∧ (kk P Q y ≤ kk P Q x → pickB f P Q (-1) true x y = cutN f P Q y) := by
  have hs := fun h => kk_same k hx hy h
  unfold pickB
  rcases cmpB_ways P Q x y with ⟨-, -, h⟩ | ⟨-, -, ⟨e1, -, h⟩ | ⟨e1, -, h⟩ | ⟨e1, -, h⟩⟩
  · omega
  · rw [e1, if_neg (by omega), if_pos (Or.inl rfl)]
    have := kk_lt h
    exact ⟨fun _ => rfl, fun _ => by omega⟩
  · rw [e1, if_neg (by omega)]
    unfold kk at *
    cases hn : sg P Q x <;> cases hm : sg P Q y <;> rw [hn, hm] at hs <;> simp at hs ⊢ <;> first | (have := hs h; exact ⟨fun _ => this.symm, fun _ => trivial⟩) | (have := hs h; exact ⟨fun _ => trivial, fun _ => this⟩) | omega | (refine ⟨fun _ => ?_, fun _ => ?_⟩ <;> first | rfl | omega | exact hs h | exact (hs h).symm)
  · rw [e1, if_neg (by omega), if_neg (by omega)]
    have := kk_lt h
    exact ⟨fun _ => by omega, fun _ => rfl⟩
theorem max_key {w e f P Q b x y : Int} (k : Kd w e f P Q b) (hx : oK P Q x ≠ 3) (hy : oK P Q y ≠ 3) :
    (kk P Q y ≤ kk P Q x → pickB f P Q 1 false x y = cutN f P Q x) ∧ (kk P Q x ≤ kk P Q y → pickB f P Q 1 false x y = cutN f P Q y) := by
  have hs := fun h => kk_same k hx hy h
  unfold pickB
  rcases cmpB_ways P Q x y with ⟨-, -, h⟩ | ⟨-, -, ⟨e1, -, h⟩ | ⟨e1, -, h⟩ | ⟨e1, -, h⟩⟩
  · omega
  · rw [e1, if_neg (by omega), if_neg (by omega)]
    have := kk_lt h
    exact ⟨fun _ => by omega, fun _ => rfl⟩
  · rw [e1, if_neg (by omega)]
    unfold kk at *
    cases hn : sg P Q x <;> cases hm : sg P Q y <;> rw [hn, hm] at hs <;> simp at hs ⊢ <;> first | (have := hs h; exact ⟨fun _ => this.symm, fun _ => trivial⟩) | (have := hs h; exact ⟨fun _ => trivial, fun _ => this⟩) | omega | (refine ⟨fun _ => ?_, fun _ => ?_⟩ <;> first | rfl | omega | exact hs h | exact (hs h).symm)
  · rw [e1, if_neg (by omega), if_pos (Or.inl rfl)]
    have := kk_lt h
    exact ⟨fun _ => rfl, fun _ => by omega⟩
theorem pick_nan {f P Q t x y : Int} {n : Bool} (h : oK P Q x = 3 ∨ oK P Q y = 3) : pickB f P Q t n x y = nanB f P Q := by
  unfold pickB
  rw [if_pos (cmpB_nan h)]
theorem min_num {w e f P Q b x y : Int} (k : Kd w e f P Q b) (hx : oK P Q x ≠ 3) (hy : oK P Q y ≠ 3) :
    oK P Q (pickB f P Q (-1) true x y) ≠ 3 ∧ kk P Q (pickB f P Q (-1) true x y) = min (kk P Q x) (kk P Q y) ∧ cutN f P Q (pickB f P Q (-1) true x y) = pickB f P Q (-1) true x y := by
  obtain ⟨a1, a2⟩ := min_key k hx hy
  obtain ⟨-, -, b1, -, -, b2⟩ := cut_same k x
  obtain ⟨-, -, c1, -, -, c2⟩ := cut_same k y
  by_cases h : kk P Q x ≤ kk P Q y
  · rw [a1 h, kk_cut k, b1, b2]
    exact ⟨hx, by omega, rfl⟩
  · rw [a2 (by omega), kk_cut k, c1, c2]
    exact ⟨hy, by omega, rfl⟩
theorem max_num {w e f P Q b x y : Int} (k : Kd w e f P Q b) (hx : oK P Q x ≠ 3) (hy : oK P Q y ≠ 3) :
    oK P Q (pickB f P Q 1 false x y) ≠ 3 ∧ kk P Q (pickB f P Q 1 false x y) = max (kk P Q x) (kk P Q y) ∧ cutN f P Q (pickB f P Q 1 false x y) = pickB f P Q 1 false x y := by
  obtain ⟨a1, a2⟩ := max_key k hx hy
  obtain ⟨-, -, b1, -, -, b2⟩ := cut_same k x
  obtain ⟨-, -, c1, -, -, c2⟩ := cut_same k y
  by_cases h : kk P Q x ≤ kk P Q y
  · rw [a2 h, kk_cut k, c1, c2]
    exact ⟨hy, by omega, rfl⟩
  · rw [a1 (by omega), kk_cut k, b1, b2]
    exact ⟨hx, by omega, rfl⟩

theorem min_comm {w e f P Q b : Int} (k : Kd w e f P Q b) (x y : Int) : pickB f P Q (-1) true y x = pickB f P Q (-1) true x y := by
  by_cases h : oK P Q x = 3 ∨ oK P Q y = 3
  · rw [pick_nan h, pick_nan h.symm]
  · have hx : oK P Q x ≠ 3 := fun hh => h (Or.inl hh)
    have hy : oK P Q y ≠ 3 := fun hh => h (Or.inr hh)
    obtain ⟨a1, a2, a3⟩ := min_num k hx hy
    obtain ⟨b1, b2, b3⟩ := min_num k hy hx
    rw [← a3, ← b3]
    exact kk_same k b1 a1 (by omega)
theorem max_comm {w e f P Q b : Int} (k : Kd w e f P Q b) (x y : Int) : pickB f P Q 1 false y x = pickB f P Q 1 false x y := by
  by_cases h : oK P Q x = 3 ∨ oK P Q y = 3
  · rw [pick_nan h, pick_nan h.symm]
  · have hx : oK P Q x ≠ 3 := fun hh => h (Or.inl hh)
    have hy : oK P Q y ≠ 3 := fun hh => h (Or.inr hh)
    obtain ⟨a1, a2, a3⟩ := max_num k hx hy
    obtain ⟨b1, b2, b3⟩ := max_num k hy hx
    rw [← a3, ← b3]
    exact kk_same k b1 a1 (by omega)
end Go.Proofs.YtpbgpdmffejdgaaGreatDoor
namespace Go.Proofs.YtpbgpdmffejdgaaGreatDoor
open Go.RowKit
open Go.Proofs.YtpbgpdmffejdgaaGreatDoor.W

/-- What half of a width's room is. -/
theorem kd_halfc {w e f P Q b : Int} (k : Kd w e f P Q b) : (w = 32 ∧ P * Q = 2147483648) ∨ (w = 64 ∧ P * Q = 9223372036854775808) := by
  rcases k with ⟨rfl, -, -, rfl, rfl, -⟩ | ⟨rfl, -, -, rfl, rfl, -⟩
  · exact Or.inl ⟨rfl, rfl⟩
  · exact Or.inr ⟨rfl, rfl⟩
theorem wq_zero : wq 0 = 0 := by unfold wq; exact Nat.zero_div _
/-- How far a number may go below nought, above it: H is half of what there is room for. -/
def lowE (H : Int) (s : Bool) : Int := if s then H else 0
def highE (H : Int) (s : Bool) : Int := if s then H - 1 else 2 * H - 1
/-- The end on the side of a sign. -/
def endE (H : Int) (s n : Bool) : Int := if n then lowE H s else highE H s
/-- The number of that sign and amount. -/
def sgd (H : Int) (n : Bool) (m : Int) : Int := if n then -m % (2 * H) else m
/-- The trap, and the number, of a float of that sign and kind, whose whole part is z. -/
def chT (H : Int) (s n : Bool) (K : Int) (z : Nat) : Int := if K = 3 then 4 else if K = 2 then 3 else if (z : Int) ≤ endE H s n then 0 else 3
def chV (H : Int) (s n : Bool) (K : Int) (z : Nat) : Int := if K = 3 then 0 else if K = 2 then endE H s n else if (z : Int) ≤ endE H s n then sgd H n z else endE H s n

theorem chT_le {H : Int} {s n : Bool} {z : Nat} (h : (z : Int) ≤ endE H s n) : chT H s n 1 z = 0 := by unfold chT; rw [if_neg (by decide), if_neg (by decide), if_pos h]
theorem chV_le {H : Int} {s n : Bool} {z : Nat} (h : (z : Int) ≤ endE H s n) : chV H s n 1 z = sgd H n z := by unfold chV; rw [if_neg (by decide), if_neg (by decide), if_pos h]
theorem chT_gt {H : Int} {s n : Bool} {z : Nat} (h : ¬ (z : Int) ≤ endE H s n) : chT H s n 1 z = 3 := by unfold chT; rw [if_neg (by decide), if_neg (by decide), if_neg h]
theorem chV_gt {H : Int} {s n : Bool} {z : Nat} (h : ¬ (z : Int) ≤ endE H s n) : chV H s n 1 z = endE H s n := by unfold chV; rw [if_neg (by decide), if_neg (by decide), if_neg h]
theorem ends_in {w e f P Q b : Int} (k : Kd w e f P Q b) (s n : Bool) : 0 ≤ endE (P * Q) s n ∧ endE (P * Q) s n < 18446744073709551616 := by
  have h := kd_halfc k
  unfold endE lowE highE
  cases n <;> cases s <;> simp only [if_true, if_false, Bool.false_eq_true] <;> omega

/-- What is left of a great amount. -/
theorem am_hi {X S : Int} (h : 64 < X) (s0 : 0 < S) (s1 : S < 9007199254740992) : W2 (shrN (shlN S.toNat 64) (-X)) ∧ ∀ E : Nat, E < 18446744073709551616 → ¬ shrN (shlN S.toNat 64) (-X) ≤ E ∧ ¬ wq (mag X S) ≤ E := by
  have e1 : shlN S.toNat 64 = S.toNat * 18446744073709551616 := by
    unfold shlN
    rw [show (2 : Nat) ^ (64 : Int).toNat = 18446744073709551616 by decide, Nat.mod_eq_of_lt (by omega)]
  have e2 : shrN (shlN S.toNat 64) (-X) = S.toNat * 18446744073709551616 := by
    unfold shrN
    rw [e1, show (-X).toNat = 0 by omega, Nat.pow_zero, Nat.div_one]
  have e3 := (low_up (S := S) (show 0 ≤ X by omega)).1
  obtain ⟨j, hj⟩ : ∃ j, X.toNat = j + 64 := ⟨X.toNat - 64, by omega⟩
  rw [hj, Nat.pow_add, ← Nat.mul_assoc] at e3
  have hp := Nat.le_mul_of_pos_right S.toNat (Nat.two_pow_pos j)
  rw [e2, e3]
  generalize S.toNat * 2 ^ j = y at *
  have hS : 1 ≤ S.toNat := by omega
  exact ⟨by unfold W2; omega, fun E hE => ⟨by omega, by omega⟩⟩
theorem am_lo {X S : Int} (h : ¬ 64 < X) (x0 : -1200 ≤ X) (s0 : 0 ≤ S) (s1 : S < 9007199254740992) : shrN (shlN S.toNat X) (-X) = wq (mag X S) := by
  by_cases hX : 0 ≤ X
  · rw [(low_up (S := S) hX).1]
    have hp : 2 ^ X.toNat ≤ 2 ^ 64 := Nat.pow_le_pow_right (by omega) (by omega)
    have hm := Nat.mul_le_mul (show S.toNat ≤ 9007199254740992 by omega) hp
    unfold shrN shlN
    rw [show (-X).toNat = 0 by omega, Nat.pow_zero, Nat.div_one, Nat.mod_eq_of_lt (by omega)]
  · rw [(low_dn (-X).toNat (by omega) (X := X) (S := S) (by omega)).1]
    unfold shrN shlN
    rw [show X.toNat = 0 by omega, Nat.pow_zero, Nat.mul_one, Nat.mod_eq_of_lt (show S.toNat < 340282366920938463463374607431768211456 by omega)]
theorem neg_id {X : Int} (h0 : -1200 ≤ X) (h1 : X ≤ 1100) : IntKind.i64.wrap (-X) = -X := i64_id (by omega) (by omega)
theorem amount_any {w e f P Q b X S : Int} (k : Kd w e f P Q b) (n : Bool) (h : Prt f P Q b 1 X S) :
    ∃ a : Nat, W2 a ∧ Ct 247 #[.agg #[.bool n, .int .i64 1, .int .i64 X, .int .u64 S]] (.agg #[.int .u64 (hi a), .int .u64 (lo a)]) ∧ ∀ E : Nat, E < 18446744073709551616 → (a ≤ E ∧ a = wq (mag X S) ∨ ¬ a ≤ E ∧ ¬ wq (mag X S) ≤ E) := by
  obtain ⟨x0, x1, s0, -, s2⟩ := h.in k
  have sp : 0 < S := by unfold Prt at h; omega
  have HO := hide (fun W => of_n S W s0 (by omega))
  have hv := small_w2 s0 (show S < 18446744073709551616 by omega)
  by_cases g : 64 < X
  · obtain ⟨h1, h2⟩ := am_hi g sp s2
    refine ⟨_, h1, hide (fun W => amount_hi W HO g (hide (fun W => left_n S.toNat 64 W hv)) (neg_id x0 x1) (hide (fun W => right_n _ (-X) W (shlN_w _ _)))), fun E hE => Or.inr (h2 E hE)⟩
  · have h1 := am_lo g x0 s0 s2
    refine ⟨_, shrN_w (-X) (shlN_w S.toNat X), hide (fun W => amount_lo W HO g (hide (fun W => left_n S.toNat X W hv)) (neg_id x0 x1) (hide (fun W => right_n _ (-X) W (shlN_w _ _)))), fun E hE => ?_⟩
    rw [h1]
    by_cases q : wq (mag X S) ≤ E
    · exact Or.inl ⟨q, rfl⟩
    · exact Or.inr ⟨q, q⟩
theorem kn_any {w e f P Q b : Int} (h : Wd w e f P Q b) : Ct 245 #[.int .i64 w] (.bool (f != 0)) := by
  have hk := fun W => kn_l W (hide (fun W => fields_any h W))
  rw [show (e != 0) = (f != 0) by rcases h with ⟨-, rfl, rfl, -⟩ | ⟨-, rfl, rfl, -⟩ | ⟨-, rfl, rfl, -⟩ <;> decide] at hk
  exact hide hk
theorem cut_kd {w e f P Q b x : Int} (k : Kd w e f P Q b) : cutN f P Q x = x % (2 * (P * Q)) := by unfold cutN; rw [if_neg k.f0]
theorem ends_any {w e f P Q b : Int} (k : Kd w e f P Q b) (s : Bool) : Ct 246 #[.int .i64 w, .bool s] (.tuple #[.int .u64 (lowE (P * Q) s), .int .u64 (highE (P * Q) s)]) := by
  have HC := hide (fun W => cut_any 18446744073709551615 k.wd W (by omega) (by omega))
  rw [cut_kd k] at HC
  have h := kd_halfc k
  have hm : 18446744073709551615 % (2 * (P * Q)) = 2 * (P * Q) - 1 := by
    rcases h with ⟨-, h⟩ | ⟨-, h⟩ <;> rw [h] <;> decide
  rw [hm] at HC
  generalize P * Q = H at *
  cases s
  · exact hide (fun W => ends_f W HC)
  · exact hide (fun W => ends_t W HC (show (2 * H - 1) / 2 = H - 1 by omega) (by show IntKind.u64.wrap (2 * H - 1 - (H - 1)) = H; rw [show 2 * H - 1 - (H - 1) = H by omega, IntKind.wrap_u64]; exact Int.emod_eq_of_lt (by omega) (by omega)))
theorem neg_mod {H x : Int} (h : H = 2147483648 ∨ H = 9223372036854775808) : IntKind.u64.wrap (-x) % (2 * H) = -x % (2 * H) := by
  rw [IntKind.wrap_u64]
  rcases h with rfl | rfl <;> omega
theorem wrap_in (x : Int) : 0 ≤ IntKind.u64.wrap x ∧ IntKind.u64.wrap x < 18446744073709551616 := by
  rw [IntKind.wrap_u64]
  omega
theorem withc_any {w e f P Q b x : Int} (k : Kd w e f P Q b) (n : Bool) : Ct 248 #[.int .i64 w, .bool n, .int .u64 x] (.int .u64 (sgd (P * Q) n x)) := by
  have h : P * Q = 2147483648 ∨ P * Q = 9223372036854775808 := by have := kd_halfc k; omega
  cases n
  · exact hide (fun W => with_f W)
  · obtain ⟨h0, h1⟩ := wrap_in (-x)
    have HC := hide (fun W => cut_any (IntKind.u64.wrap (-x)) k.wd W h0 h1)
    rw [cut_kd k, neg_mod h] at HC
    exact hide (fun W => with_t W rfl HC)
/-- The answer of chopped, by a float's parts. -/
theorem chopped_parts {w k e' f' P' Q' b' e f P Q b x X S K : Int} {n : Bool} (kw : Kd w e f P Q b) (kk : Kd k e' f' P' Q' b') (s : Bool) (h : Prt f P Q b K X S) (HO : Ct 15 #[.int .i64 w, .int .u64 x] (.agg #[.bool n, .int .i64 K, .int .i64 X, .int .u64 S])) :
    Ct 168 #[.int .i64 w, .int .i64 k, .int .u64 x, .bool s] (.tuple #[.int .u64 (chV (P' * Q') s n K (wq (mag X S))), .int .i64 (chT (P' * Q') s n K (wq (mag X S)))]) := by
  have HK := kn_any kk.wd
  rw [ne_t kk.f0] at HK
  have HE := ends_any kk s
  obtain ⟨e0, e1⟩ := ends_in kk s n
  have hK : K = 0 ∨ K = 1 ∨ K = 2 ∨ K = 3 := by unfold Prt at h; omega
  rcases hK with rfl | rfl | rfl | rfl
  · rw [h.mag0 (by decide), wq_zero]
    have hT : chT (P' * Q') s n 0 0 = 0 := by unfold chT; rw [if_neg (by decide), if_neg (by decide), if_pos (by omega)]
    have hV : chV (P' * Q') s n 0 0 = 0 := by
      unfold chV
      rw [if_neg (by decide), if_neg (by decide), if_pos (by omega)]
      unfold sgd
      cases n <;> simp
    rw [hT, hV]
    cases n
    · exact hide (fun W => chopped_zero_f W HK HO HE)
    · exact hide (fun W => chopped_zero_t W HK HO HE)
  · obtain ⟨a, w2, HM, ha⟩ := amount_any kw n h
    obtain ⟨E, hE⟩ := Int.eq_ofNat_of_zero_le e0
    have hv := ha E (by omega)
    have HF := hide (fun W => of_n (endE (P' * Q') s n) W e0 e1)
    have HC := hide (fun W => cmp_n a E W)
    have HS := withc_any (x := lo a) kk n
    rw [hE, Int.toNat_natCast] at HF
    rcases hv with ⟨g, h1⟩ | ⟨g, h1⟩
    · rw [← h1, chT_le (by omega), chV_le (by omega)]
      have hc : cmpN a E ≤ 0 := by unfold cmpN; split <;> (try split) <;> omega
      have hl : lo a = (a : Int) := by unfold lo; omega
      rw [hl] at HS
      rw [hl] at HM HC
      cases n
      · rw [show endE (P' * Q') s false = highE (P' * Q') s from rfl] at hE
        rw [← hE] at HF
        exact hide (fun W => chopped_le_f W HK HO HE HM HF HC hc HS)
      · rw [show endE (P' * Q') s true = lowE (P' * Q') s from rfl] at hE
        rw [← hE] at HF
        exact hide (fun W => chopped_le_t W HK HO HE HM HF HC hc HS)
    · rw [chT_gt (by omega), chV_gt (by omega)]
      have hc : ¬ cmpN a E ≤ 0 := by unfold cmpN; split <;> (try split) <;> omega
      cases n
      · rw [show endE (P' * Q') s false = highE (P' * Q') s from rfl] at hE ⊢
        rw [← hE] at HF
        exact hide (fun W => chopped_gt_f W HK HO HE HM HF HC hc)
      · rw [show endE (P' * Q') s true = lowE (P' * Q') s from rfl] at hE ⊢
        rw [← hE] at HF
        exact hide (fun W => chopped_gt_t W HK HO HE HM HF HC hc)
  · have hT : chT (P' * Q') s n 2 (wq (mag X S)) = 3 := by unfold chT; rw [if_neg (by decide), if_pos rfl]
    have hV : chV (P' * Q') s n 2 (wq (mag X S)) = endE (P' * Q') s n := by unfold chV; rw [if_neg (by decide), if_pos rfl]
    rw [hT, hV]
    cases n
    · exact hide (fun W => chopped_inf_f W HK HO HE)
    · exact hide (fun W => chopped_inf_t W HK HO HE)
  · have hT : chT (P' * Q') s n 3 (wq (mag X S)) = 4 := by unfold chT; rw [if_pos rfl]
    have hV : chV (P' * Q') s n 3 (wq (mag X S)) = 0 := by unfold chV; rw [if_pos rfl]
    rw [hT, hV]
    cases n
    · exact hide (fun W => chopped_nan_f W HK HO HE)
    · exact hide (fun W => chopped_nan_t W HK HO HE)
/-- The trap and the number of a float's bits. -/
def trN (f P Q b H : Int) (s : Bool) (x : Int) : Int := chT H s (oN P Q x) (oK P Q x) (wq (oM f P Q b x))
def vaN (f P Q b H : Int) (s : Bool) (x : Int) : Int := chV H s (oN P Q x) (oK P Q x) (wq (oM f P Q b x))
theorem chopped_any {w e f P Q b k e' f' P' Q' b' x : Int} (kw : Kd w e f P Q b) (kk : Kd k e' f' P' Q' b') (s : Bool) (x0 : 0 ≤ x) (x1 : x < 18446744073709551616) :
    Ct 168 #[.int .i64 w, .int .i64 k, .int .u64 x, .bool s] (.tuple #[.int .u64 (vaN f P Q b (P' * Q') s x), .int .i64 (trN f P Q b (P' * Q') s x)]) := by
  obtain ⟨X, S, ho, hp, hm⟩ := open_kd kw x
  have := chopped_parts kw kk s hp (hide (fun W => open_any x kw.wd W x0 x1 ho))
  rw [hm] at this
  exact this
/-- What Trap tells. -/
def tvN (f P Q b H : Int) (s : Bool) (x : Int) : Int := if trN f P Q b H s x = 0 then vaN f P Q b H s x else 0
theorem trap_any {w e f P Q b k e' f' P' Q' b' x : Int} (kw : Kd w e f P Q b) (kk : Kd k e' f' P' Q' b') (s : Bool) (x0 : 0 ≤ x) (x1 : x < 18446744073709551616) :
    Ct 92 #[.int .i64 w, .int .i64 k, .int .u64 x, .bool s] (.tuple #[.int .u64 (tvN f P Q b (P' * Q') s x), .int .i64 (trN f P Q b (P' * Q') s x)]) := by
  have HC := chopped_any kw kk s x0 x1
  unfold tvN
  generalize trN f P Q b (P' * Q') s x = t at *
  by_cases h : t = 0
  · subst h
    rw [if_pos rfl]
    exact hide (fun W => trap_n W HC)
  · rw [if_neg h]
    exact hide (fun W => trap_y W HC (ne_t h))
theorem sat_any {w e f P Q b k e' f' P' Q' b' x : Int} (kw : Kd w e f P Q b) (kk : Kd k e' f' P' Q' b') (s : Bool) (x0 : 0 ≤ x) (x1 : x < 18446744073709551616) :
    Ct 98 #[.int .i64 w, .int .i64 k, .int .u64 x, .bool s] (.int .u64 (vaN f P Q b (P' * Q') s x)) := hide (fun W => sat_l W (chopped_any kw kk s x0 x1))
end Go.Proofs.YtpbgpdmffejdgaaGreatDoor
