/- MInA. -/
import Derived.Test.YtpbgpdmffejdgaaGreatDoorG01
namespace Go.Proofs.YtpbgpdmffejdgaaGreatDoor
set_option maxHeartbeats 4000000
set_option maxRecDepth 100000
open Go.RowKit
theorem aej {a b : Int}  : Ct 225 #[.int .u32 a,.int .u32 b] (.int .u64 ((a + b) % 4294967296)):=by
 refine ab (fun W => ?_)
 have HB:=rf W
 go_enter Tryz.func225,Tryz.ntmps225
 go_wp2_with fail
 go_ret
 exact ⟨by first | rfl | simp,aa HB⟩
theorem aek {a b : Int}  : Ct 226 #[.int .u64 a,.int .u64 b] (.int .u64 (IntKind.u64.wrap (a + b))):=by
 refine ab (fun W => ?_)
 have HB:=rf W
 go_enter Tryz.func226,Tryz.ntmps226
 go_wp2_with fail
 go_ret
 exact ⟨by first | rfl | simp,aa HB⟩
theorem ael {a b : Int}  : Ct 227 #[.int .u32 a,.int .u32 b] (.int .u64 ((a - b) % 4294967296)):=by
 refine ab (fun W => ?_)
 have HB:=rf W
 go_enter Tryz.func227,Tryz.ntmps227
 go_wp2_with fail
 go_ret
 exact ⟨by first | rfl | simp,aa HB⟩
theorem aem {a b : Int}  : Ct 228 #[.int .u64 a,.int .u64 b] (.int .u64 (IntKind.u64.wrap (a - b))):=by
 refine ab (fun W => ?_)
 have HB:=rf W
 go_enter Tryz.func228,Tryz.ntmps228
 go_wp2_with fail
 go_ret
 exact ⟨by first | rfl | simp,aa HB⟩
theorem aen {a b : Int}  : Ct 229 #[.int .u32 a,.int .u32 b] (.int .u64 ((a * b) % 4294967296)):=by
 refine ab (fun W => ?_)
 have HB:=rf W
 go_enter Tryz.func229,Tryz.ntmps229
 go_wp2_with fail
 go_ret
 exact ⟨by first | rfl | simp,aa HB⟩
theorem aeo {a b : Int}  : Ct 230 #[.int .u64 a,.int .u64 b] (.int .u64 (IntKind.u64.wrap (a * b))):=by
 refine ab (fun W => ?_)
 have HB:=rf W
 go_enter Tryz.func230,Tryz.ntmps230
 go_wp2_with fail
 go_ret
 exact ⟨by first | rfl | simp,aa HB⟩
theorem aep {a b : Int} (b0 : 0 ≤ b) (b1 : b < 32) : Ct 214 #[.int .u32 a,.int .u32 b] (.int .u64 ((a * 2 ^ b.toNat) % 4294967296)):=by
 refine ab (fun W => ?_)
 have HB:=rf W
 go_enter Tryz.func214,Tryz.ntmps214
 go_wp2_with fail
 go_ret
 exact ⟨by first | rfl | simp,aa HB⟩
theorem aeq {a b : Int} (b0 : 0 ≤ b) (b1 : b < 64) : Ct 215 #[.int .u64 a,.int .u64 b] (.int .u64 (IntKind.u64.wrap (a * 2 ^ b.toNat))):=by
 refine ab (fun W => ?_)
 have HB:=rf W
 go_enter Tryz.func215,Tryz.ntmps215
 go_wp2_with fail
 go_ret
 exact ⟨by first | rfl | simp,aa HB⟩
theorem aer {a b : Int} (b0 : 0 ≤ b) (b1 : b < 32) : Ct 219 #[.int .u32 a,.int .u32 b] (.int .u64 (IntKind.u64.wrap (a / 2 ^ b.toNat))):=by
 refine ab (fun W => ?_)
 have HB:=rf W
 go_enter Tryz.func219,Tryz.ntmps219
 go_wp2_with fail
 go_ret
 exact ⟨by first | rfl | simp,aa HB⟩
theorem aes {a b : Int} (b0 : 0 ≤ b) (b1 : b < 64) : Ct 220 #[.int .u64 a,.int .u64 b] (.int .u64 (a / 2 ^ b.toNat)):=by
 refine ab (fun W => ?_)
 have HB:=rf W
 go_enter Tryz.func220,Tryz.ntmps220
 go_wp2_with fail
 go_ret
 exact ⟨by first | rfl | simp,aa HB⟩
theorem aet {a b : Int} (b0 : 0 ≤ b) (b1 : b < 32) : Ct 217 #[.int .i32 a,.int .i32 b] (.int .u64 (IntKind.u64.wrap (a / 2 ^ b.toNat))):=by
 refine ab (fun W => ?_)
 have HB:=rf W
 go_enter Tryz.func217,Tryz.ntmps217
 go_wp2_with fail
 go_ret
 exact ⟨by first | rfl | simp,aa HB⟩
theorem aeu {a b : Int} (b0 : 0 ≤ b) (b1 : b < 64) : Ct 218 #[.int .i64 a,.int .i64 b] (.int .u64 (IntKind.u64.wrap (a / 2 ^ b.toNat))):=by
 refine ab (fun W => ?_)
 have HB:=rf W
 go_enter Tryz.func218,Tryz.ntmps218
 go_wp2_with fail
 go_ret
 exact ⟨by first | rfl | simp,aa HB⟩
theorem aev {a b : Int}  : Ct 127 #[.int .u32 a,.int .u32 b] (.bool (decide (a < b))):=by
 refine ab (fun W => ?_)
 have HB:=rf W
 go_enter Tryz.func127,Tryz.ntmps127
 go_wp2_with fail
 go_ret
 exact ⟨by first | rfl | simp,aa HB⟩
theorem aew {a b : Int}  : Ct 128 #[.int .u64 a,.int .u64 b] (.bool (decide (a < b))):=by
 refine ab (fun W => ?_)
 have HB:=rf W
 go_enter Tryz.func128,Tryz.ntmps128
 go_wp2_with fail
 go_ret
 exact ⟨by first | rfl | simp,aa HB⟩
theorem yx {a b : Int} (g : b = 0) : Ct 210 #[.int .u32 a,.int .u32 b] (.agg #[.int .u64 0,.int .u64 0,.int .i64 2]):=by
 refine ab (fun W => ?_)
 go_enter Tryz.func210,Tryz.ntmps210
 go_wp2_with fail
 exact bodyPost_ret (v:=.agg #[.int .u64 0,.int .u64 0,.int .i64 2]) (by simp [results,Tryz.results210,go_sem]) rfl ⟨rfl,ae _ _⟩
theorem yz {a b q r : Int} (a0 : 0 ≤ a) (a1 : a < 4294967296) (b0 : 0 ≤ b) (b1 : b < 4294967296) (g : ¬ b = 0) (hq : a / b = q) (hr : a % b = r) (hQ : IntKind.u64.wrap q = q) (hR : IntKind.u64.wrap r = r) : Ct 210 #[.int .u32 a,.int .u32 b] (.agg #[.int .u64 q,.int .u64 r,.int .i64 0]):=by
 refine ab (fun W => ?_)
 go_enter Tryz.func210,Tryz.ntmps210
 go_wp2_with fail
 exact bodyPost_ret (v:=.agg #[.int .u64 q,.int .u64 r,.int .i64 0]) (by simp [results,Tryz.results210,go_sem]) rfl ⟨rfl,ae _ _⟩
theorem yA {a b : Int} (g : b = 0) : Ct 211 #[.int .u64 a,.int .u64 b] (.agg #[.int .u64 0,.int .u64 0,.int .i64 2]):=by
 refine ab (fun W => ?_)
 go_enter Tryz.func211,Tryz.ntmps211
 go_wp2_with fail
 exact bodyPost_ret (v:=.agg #[.int .u64 0,.int .u64 0,.int .i64 2]) (by simp [results,Tryz.results211,go_sem]) rfl ⟨rfl,ae _ _⟩
theorem yB {a b q r : Int} (a0 : 0 ≤ a) (a1 : a < 18446744073709551616) (b0 : 0 ≤ b) (b1 : b < 18446744073709551616) (g : ¬ b = 0) (hq : a / b = q) (hr : a % b = r) : Ct 211 #[.int .u64 a,.int .u64 b] (.agg #[.int .u64 q,.int .u64 r,.int .i64 0]):=by
 refine ab (fun W => ?_)
 go_enter Tryz.func211,Tryz.ntmps211
 go_wp2_with fail
 exact bodyPost_ret (v:=.agg #[.int .u64 q,.int .u64 r,.int .i64 0]) (by simp [results,Tryz.results211,go_sem]) rfl ⟨rfl,ae _ _⟩
theorem yC {a b : Int} (g : b = 0) : Ct 207 #[.int .i32 a,.int .i32 b] (.agg #[.int .u64 0,.int .u64 0,.int .i64 2]):=by
 refine ab (fun W => ?_)
 go_enter Tryz.func207,Tryz.ntmps207
 go_wp2_with fail
 exact bodyPost_ret (v:=.agg #[.int .u64 0,.int .u64 0,.int .i64 2]) (by simp [results,Tryz.results207,go_sem]) rfl ⟨rfl,ae _ _⟩
theorem yD {a b q r Q : Int} (a0 : 0 ≤ a) (g : ¬ b = 0) (hq : IntKind.i32.wrap (a.tdiv b) = q) (hQ : IntKind.u64.wrap q = Q) (hr : IntKind.u64.wrap (a % b) = r) : Ct 207 #[.int .i32 a,.int .i32 b] (.agg #[.int .u64 Q,.int .u64 r,.int .i64 0]):=by
 refine ab (fun W => ?_)
 go_enter Tryz.func207,Tryz.ntmps207
 go_wp2_with fail
 exact bodyPost_ret (v:=.agg #[.int .u64 Q,.int .u64 r,.int .i64 0]) (by simp [results,Tryz.results207,go_sem]) rfl ⟨rfl,ae _ _⟩
theorem yE {a b q r Q : Int} (a0 : a < 0) (b0 : 0 ≤ b) (g : ¬ b = 0) (hq : IntKind.i32.wrap (a.tdiv b) = q) (hQ : IntKind.u64.wrap q = Q) (hr : IntKind.u64.wrap (a.tmod b) = r) : Ct 207 #[.int .i32 a,.int .i32 b] (.agg #[.int .u64 Q,.int .u64 r,.int .i64 0]):=by
 refine ab (fun W => ?_)
 go_enter Tryz.func207,Tryz.ntmps207
 go_wp2_with fail
 exact bodyPost_ret (v:=.agg #[.int .u64 Q,.int .u64 r,.int .i64 0]) (by simp [results,Tryz.results207,go_sem]) rfl ⟨rfl,ae _ _⟩
theorem yF {a b q r Q : Int} (a0 : a < 0) (b0 : b < 0) (hq : IntKind.i32.wrap (a.tdiv b) = q) (q0 : 0 ≤ q) (hQ : IntKind.u64.wrap q = Q) (hr : IntKind.u64.wrap (a.tmod b) = r) : Ct 207 #[.int .i32 a,.int .i32 b] (.agg #[.int .u64 Q,.int .u64 r,.int .i64 0]):=by
 refine ab (fun W => ?_)
 go_enter Tryz.func207,Tryz.ntmps207
 go_wp2_with fail
 exact bodyPost_ret (v:=.agg #[.int .u64 Q,.int .u64 r,.int .i64 0]) (by simp [results,Tryz.results207,go_sem]) rfl ⟨rfl,ae _ _⟩
theorem yG {a b q : Int} (a0 : a < 0) (b0 : b < 0) (hq : IntKind.i32.wrap (a.tdiv b) = q) (q0 : q < 0) : Ct 207 #[.int .i32 a,.int .i32 b] (.agg #[.int .u64 0,.int .u64 0,.int .i64 3]):=by
 refine ab (fun W => ?_)
 go_enter Tryz.func207,Tryz.ntmps207
 go_wp2_with fail
 exact bodyPost_ret (v:=.agg #[.int .u64 0,.int .u64 0,.int .i64 3]) (by simp [results,Tryz.results207,go_sem]) rfl ⟨rfl,ae _ _⟩
theorem yH {a b : Int} (g : b = 0) : Ct 208 #[.int .i64 a,.int .i64 b] (.agg #[.int .u64 0,.int .u64 0,.int .i64 2]):=by
 refine ab (fun W => ?_)
 go_enter Tryz.func208,Tryz.ntmps208
 go_wp2_with fail
 exact bodyPost_ret (v:=.agg #[.int .u64 0,.int .u64 0,.int .i64 2]) (by simp [results,Tryz.results208,go_sem]) rfl ⟨rfl,ae _ _⟩
theorem yI {a b q r Q : Int} (a0 : 0 ≤ a) (g : ¬ b = 0) (hq : IntKind.i64.wrap (a.tdiv b) = q) (hQ : IntKind.u64.wrap q = Q) (hr : IntKind.u64.wrap (a % b) = r) : Ct 208 #[.int .i64 a,.int .i64 b] (.agg #[.int .u64 Q,.int .u64 r,.int .i64 0]):=by
 refine ab (fun W => ?_)
 go_enter Tryz.func208,Tryz.ntmps208
 go_wp2_with fail
 exact bodyPost_ret (v:=.agg #[.int .u64 Q,.int .u64 r,.int .i64 0]) (by simp [results,Tryz.results208,go_sem]) rfl ⟨rfl,ae _ _⟩
theorem yJ {a b q r Q : Int} (a0 : a < 0) (b0 : 0 ≤ b) (g : ¬ b = 0) (hq : IntKind.i64.wrap (a.tdiv b) = q) (hQ : IntKind.u64.wrap q = Q) (hr : IntKind.u64.wrap (a.tmod b) = r) : Ct 208 #[.int .i64 a,.int .i64 b] (.agg #[.int .u64 Q,.int .u64 r,.int .i64 0]):=by
 refine ab (fun W => ?_)
 go_enter Tryz.func208,Tryz.ntmps208
 go_wp2_with fail
 exact bodyPost_ret (v:=.agg #[.int .u64 Q,.int .u64 r,.int .i64 0]) (by simp [results,Tryz.results208,go_sem]) rfl ⟨rfl,ae _ _⟩
theorem yK {a b q r Q : Int} (a0 : a < 0) (b0 : b < 0) (hq : IntKind.i64.wrap (a.tdiv b) = q) (q0 : 0 ≤ q) (hQ : IntKind.u64.wrap q = Q) (hr : IntKind.u64.wrap (a.tmod b) = r) : Ct 208 #[.int .i64 a,.int .i64 b] (.agg #[.int .u64 Q,.int .u64 r,.int .i64 0]):=by
 refine ab (fun W => ?_)
 go_enter Tryz.func208,Tryz.ntmps208
 go_wp2_with fail
 exact bodyPost_ret (v:=.agg #[.int .u64 Q,.int .u64 r,.int .i64 0]) (by simp [results,Tryz.results208,go_sem]) rfl ⟨rfl,ae _ _⟩
theorem yL {a b q : Int} (a0 : a < 0) (b0 : b < 0) (hq : IntKind.i64.wrap (a.tdiv b) = q) (q0 : q < 0) : Ct 208 #[.int .i64 a,.int .i64 b] (.agg #[.int .u64 0,.int .u64 0,.int .i64 3]):=by
 refine ab (fun W => ?_)
 go_enter Tryz.func208,Tryz.ntmps208
 go_wp2_with fail
 exact bodyPost_ret (v:=.agg #[.int .u64 0,.int .u64 0,.int .i64 3]) (by simp [results,Tryz.results208,go_sem]) rfl ⟨rfl,ae _ _⟩
theorem la {w b j k r : Int} (h1 : IntKind.i64.wrap (w - 1) = j) (h2 : IntKind.u64.wrap j = k) (h3 : bits .and .u64 b k = r) : Ct 213 #[.int .i64 w,.int .u64 b] (.int .u64 r):=by
 refine ab (fun W => ?_)
 have HB:=rf W
 go_enter Tryz.func213,Tryz.ntmps213
 go_wp2_with fail
 go_ret
 exact ⟨rfl,aa HB⟩
theorem ak5 {a a2 p q x1 a4 p' q' x2 a16 s x3 a8 x4 b16 x5 c32 x6 r1 r : Int} (h1 : a / 2 = a2) (h2 : bits .and .u64 a2 6148914691236517205 = p) (h3 : bits .and .u64 a 6148914691236517205 = q) (h4 : IntKind.u64.wrap (p + q) = x1)
 (h5 : x1 / 4 = a4) (h6 : bits .and .u64 a4 3689348814741910323 = p') (h7 : bits .and .u64 x1 3689348814741910323 = q') (h8 : IntKind.u64.wrap (p' + q') = x2)
 (h9 : x2 / 16 = a16) (ha : IntKind.u64.wrap (a16 + x2) = s) (hb : bits .and .u64 s 1085102592571150095 = x3)
 (hc : x3 / 256 = a8) (hd : IntKind.u64.wrap (x3 + a8) = x4) (he : x4 / 65536 = b16) (hf : IntKind.u64.wrap (x4 + b16) = x5) (hg : x5 / 4294967296 = c32) (hh : IntKind.u64.wrap (x5 + c32) = x6) (hi : IntKind.i64.wrap x6 = r1) (hj : bits .and .i64 r1 127 = r) : Ct 224 #[.int .u64 a] (.int .i64 r):=by
 refine ab (fun W => ?_)
 have HB:=rf W
 go_enter Tryz.func224,Tryz.ntmps224
 go_wp2_with fail
 go_ret
 exact ⟨rfl,aa HB⟩
theorem aex {a b : Int}  : Ct 124 #[.int .i32 a,.int .i32 b] (.bool (decide (a < b))):=by
 refine ab (fun W => ?_)
 have HB:=rf W
 go_enter Tryz.func124,Tryz.ntmps124
 go_wp2_with fail
 go_ret
 exact ⟨by first | rfl | simp,aa HB⟩
theorem aey {a b : Int}  : Ct 125 #[.int .i64 a,.int .i64 b] (.bool (decide (a < b))):=by
 refine ab (fun W => ?_)
 have HB:=rf W
 go_enter Tryz.func125,Tryz.ntmps125
 go_wp2_with fail
 go_ret
 exact ⟨by first | rfl | simp,aa HB⟩
end Go.Proofs.YtpbgpdmffejdgaaGreatDoor
