/- The walk of IntsBack. -/
import Derived.Test.YtjlegmgpgfjciaaTk
namespace Go.Proofs.Ytjlegmgpgfjciaa
open Go.RowKit

set_option maxHeartbeats 4000000 in
set_option maxRecDepth 100000 in
theorem back_no {w a b : Int} (HA0 : Ct 8 #[] (.bool true)) (g1 : (w != 32) = true) (g2 : (w != 64) = true) : Ct 6 #[.int .i64 w, .int .u64 a, .int .u64 b] (.bool true) := by
  refine hide (fun W => ?_)
  have HB := hide (Below.refl W.heap.size W)
  go_enter Try.func6, Try.ntmps6
  go_wp2_with fail
  refine (unhide HA0 _).mono ?_
  rintro _ w1 ⟨rfl, hb⟩
  have HB := hide (bthen (unhide HB) hb)
  clear hb
  go_wp2_with fail
  go_ret
  exact ⟨rfl, unhide HB⟩
set_option maxHeartbeats 4000000 in
set_option maxRecDepth 100000 in
theorem back_32z {a b c rl p1 y p2 p3 ab s1 : Int} (HA0 : Ct 8 #[] (.bool true)) (hc : IntKind.u64.wrap (a * 4294967296) = s1) (hc2 : s1 / 4294967296 = c) (D1 : Ct 18 #[.int .i64 32, .int .u64 a, .int .u64 b] (.tuple #[.int .u64 0, .int .i64 2])) (D2 : Ct 19 #[.int .i64 32, .int .u64 a, .int .u64 b] (.tuple #[.int .u64 0, .int .i64 2])) (D3 : Ct 16 #[.int .i64 32, .int .u64 a, .int .u64 b] (.tuple #[.int .u64 0, .int .i64 2])) (D4 : Ct 17 #[.int .i64 32, .int .u64 a, .int .u64 b] (.tuple #[.int .u64 0, .int .i64 2])) (R1 : Ct 26 #[.int .i64 32, .int .u64 a, .int .u64 b] (.int .u64 rl)) (R2 : Ct 27 #[.int .i64 32, .int .u64 rl, .int .u64 b] (.int .u64 c)) (P1 : Ct 31 #[.int .i64 32, .int .u64 a] (.int .u64 p1)) (hy : bits .xor .u64 IntKind.u64.max a = y) (P2 : Ct 31 #[.int .i64 32, .int .u64 y] (.int .u64 p2)) (hp : IntKind.u64.wrap (p1 + p2) = p3) (hp3 : p3 = 32) (A3 : Ct 9 #[.int .i64 32, .int .u64 a, .int .u64 b] (.int .u64 ab)) (S3 : Ct 10 #[.int .i64 32, .int .u64 ab, .int .u64 b] (.int .u64 c)) : Ct 6 #[.int .i64 32, .int .u64 a, .int .u64 b] (.bool true) := by
  refine hide (fun W => ?_)
  have HB := hide (Below.refl W.heap.size W)
  go_enter Try.func6, Try.ntmps6
  go_wp2_with fail
  refine (unhide HA0 _).mono ?_
  rintro _ w1 ⟨rfl, hb⟩
  have HB := hide (bthen (unhide HB) hb)
  clear hb
  go_wp2_with fail
  refine (unhide D1 _).mono ?_
  rintro _ w2 ⟨rfl, hb⟩
  have HB := hide (bthen (unhide HB) hb)
  clear hb
  go_wp2_with fail
  refine (unhide D2 _).mono ?_
  rintro _ w3 ⟨rfl, hb⟩
  have HB := hide (bthen (unhide HB) hb)
  clear hb
  go_wp2_with fail
  refine (unhide D3 _).mono ?_
  rintro _ w4 ⟨rfl, hb⟩
  have HB := hide (bthen (unhide HB) hb)
  clear hb
  go_wp2_with fail
  refine (unhide D4 _).mono ?_
  rintro _ w5 ⟨rfl, hb⟩
  have HB := hide (bthen (unhide HB) hb)
  clear hb
  go_wp2_with fail
  refine (unhide R1 _).mono ?_
  rintro _ w6 ⟨rfl, hb⟩
  have HB := hide (bthen (unhide HB) hb)
  clear hb
  go_wp2_with fail
  refine (unhide R2 _).mono ?_
  rintro _ w7 ⟨rfl, hb⟩
  have HB := hide (bthen (unhide HB) hb)
  clear hb
  go_wp2_with fail
  refine (unhide P1 _).mono ?_
  rintro _ w8 ⟨rfl, hb⟩
  have HB := hide (bthen (unhide HB) hb)
  clear hb
  go_wp2_with fail
  refine (unhide P2 _).mono ?_
  rintro _ w9 ⟨rfl, hb⟩
  have HB := hide (bthen (unhide HB) hb)
  clear hb
  go_wp2_with fail
  refine (unhide A3 _).mono ?_
  rintro _ w10 ⟨rfl, hb⟩
  have HB := hide (bthen (unhide HB) hb)
  clear hb
  go_wp2_with fail
  refine (unhide S3 _).mono ?_
  rintro _ w11 ⟨rfl, hb⟩
  have HB := hide (bthen (unhide HB) hb)
  clear hb
  go_wp2_with fail
  go_ret
  exact ⟨by simp, unhide HB⟩
set_option maxHeartbeats 4000000 in
set_option maxRecDepth 100000 in
theorem back_32n {a b c rl p1 y p2 p3 ab s1 q r z1 p s z2 : Int} (HA0 : Ct 8 #[] (.bool true)) (hc : IntKind.u64.wrap (a * 4294967296) = s1) (hc2 : s1 / 4294967296 = c) (D1 : Ct 18 #[.int .i64 32, .int .u64 a, .int .u64 b] (.tuple #[.int .u64 q, .int .i64 0])) (D2 : Ct 19 #[.int .i64 32, .int .u64 a, .int .u64 b] (.tuple #[.int .u64 r, .int .i64 0])) (D3 : Ct 16 #[.int .i64 32, .int .u64 a, .int .u64 b] (.tuple #[.int .u64 p, .int .i64 0])) (D4 : Ct 17 #[.int .i64 32, .int .u64 a, .int .u64 b] (.tuple #[.int .u64 s, .int .i64 0])) (M1 : Ct 11 #[.int .i64 32, .int .u64 q, .int .u64 b] (.int .u64 z1)) (A1 : Ct 9 #[.int .i64 32, .int .u64 z1, .int .u64 r] (.int .u64 c)) (M2 : Ct 11 #[.int .i64 32, .int .u64 p, .int .u64 b] (.int .u64 z2)) (A2 : Ct 9 #[.int .i64 32, .int .u64 z2, .int .u64 s] (.int .u64 c)) (L2 : Ct 30 #[.int .i64 32, .int .u64 s, .int .u64 b] (.bool true)) (R1 : Ct 26 #[.int .i64 32, .int .u64 a, .int .u64 b] (.int .u64 rl)) (R2 : Ct 27 #[.int .i64 32, .int .u64 rl, .int .u64 b] (.int .u64 c)) (P1 : Ct 31 #[.int .i64 32, .int .u64 a] (.int .u64 p1)) (hy : bits .xor .u64 IntKind.u64.max a = y) (P2 : Ct 31 #[.int .i64 32, .int .u64 y] (.int .u64 p2)) (hp : IntKind.u64.wrap (p1 + p2) = p3) (hp3 : p3 = 32) (A3 : Ct 9 #[.int .i64 32, .int .u64 a, .int .u64 b] (.int .u64 ab)) (S3 : Ct 10 #[.int .i64 32, .int .u64 ab, .int .u64 b] (.int .u64 c)) : Ct 6 #[.int .i64 32, .int .u64 a, .int .u64 b] (.bool true) := by
  refine hide (fun W => ?_)
  have HB := hide (Below.refl W.heap.size W)
  go_enter Try.func6, Try.ntmps6
  go_wp2_with fail
  refine (unhide HA0 _).mono ?_
  rintro _ w1 ⟨rfl, hb⟩
  have HB := hide (bthen (unhide HB) hb)
  clear hb
  go_wp2_with fail
  refine (unhide D1 _).mono ?_
  rintro _ w2 ⟨rfl, hb⟩
  have HB := hide (bthen (unhide HB) hb)
  clear hb
  go_wp2_with fail
  refine (unhide D2 _).mono ?_
  rintro _ w3 ⟨rfl, hb⟩
  have HB := hide (bthen (unhide HB) hb)
  clear hb
  go_wp2_with fail
  refine (unhide D3 _).mono ?_
  rintro _ w4 ⟨rfl, hb⟩
  have HB := hide (bthen (unhide HB) hb)
  clear hb
  go_wp2_with fail
  refine (unhide D4 _).mono ?_
  rintro _ w5 ⟨rfl, hb⟩
  have HB := hide (bthen (unhide HB) hb)
  clear hb
  go_wp2_with fail
  refine (unhide M1 _).mono ?_
  rintro _ w6 ⟨rfl, hb⟩
  have HB := hide (bthen (unhide HB) hb)
  clear hb
  go_wp2_with fail
  refine (unhide A1 _).mono ?_
  rintro _ w7 ⟨rfl, hb⟩
  have HB := hide (bthen (unhide HB) hb)
  clear hb
  go_wp2_with fail
  refine (unhide M2 _).mono ?_
  rintro _ w8 ⟨rfl, hb⟩
  have HB := hide (bthen (unhide HB) hb)
  clear hb
  go_wp2_with fail
  refine (unhide A2 _).mono ?_
  rintro _ w9 ⟨rfl, hb⟩
  have HB := hide (bthen (unhide HB) hb)
  clear hb
  go_wp2_with fail
  refine (unhide L2 _).mono ?_
  rintro _ w10 ⟨rfl, hb⟩
  have HB := hide (bthen (unhide HB) hb)
  clear hb
  go_wp2_with fail
  refine (unhide R1 _).mono ?_
  rintro _ w11 ⟨rfl, hb⟩
  have HB := hide (bthen (unhide HB) hb)
  clear hb
  go_wp2_with fail
  refine (unhide R2 _).mono ?_
  rintro _ w12 ⟨rfl, hb⟩
  have HB := hide (bthen (unhide HB) hb)
  clear hb
  go_wp2_with fail
  refine (unhide P1 _).mono ?_
  rintro _ w13 ⟨rfl, hb⟩
  have HB := hide (bthen (unhide HB) hb)
  clear hb
  go_wp2_with fail
  refine (unhide P2 _).mono ?_
  rintro _ w14 ⟨rfl, hb⟩
  have HB := hide (bthen (unhide HB) hb)
  clear hb
  go_wp2_with fail
  refine (unhide A3 _).mono ?_
  rintro _ w15 ⟨rfl, hb⟩
  have HB := hide (bthen (unhide HB) hb)
  clear hb
  go_wp2_with fail
  refine (unhide S3 _).mono ?_
  rintro _ w16 ⟨rfl, hb⟩
  have HB := hide (bthen (unhide HB) hb)
  clear hb
  go_wp2_with fail
  go_ret
  exact ⟨by simp, unhide HB⟩
set_option maxHeartbeats 4000000 in
set_option maxRecDepth 100000 in
theorem back_32o {a b c rl p1 y p2 p3 ab s1 p s z2 : Int} (HA0 : Ct 8 #[] (.bool true)) (hc : IntKind.u64.wrap (a * 4294967296) = s1) (hc2 : s1 / 4294967296 = c) (D1 : Ct 18 #[.int .i64 32, .int .u64 a, .int .u64 b] (.tuple #[.int .u64 0, .int .i64 3])) (D2 : Ct 19 #[.int .i64 32, .int .u64 a, .int .u64 b] (.tuple #[.int .u64 0, .int .i64 0])) (D3 : Ct 16 #[.int .i64 32, .int .u64 a, .int .u64 b] (.tuple #[.int .u64 p, .int .i64 0])) (D4 : Ct 17 #[.int .i64 32, .int .u64 a, .int .u64 b] (.tuple #[.int .u64 s, .int .i64 0])) (M2 : Ct 11 #[.int .i64 32, .int .u64 p, .int .u64 b] (.int .u64 z2)) (A2 : Ct 9 #[.int .i64 32, .int .u64 z2, .int .u64 s] (.int .u64 c)) (L2 : Ct 30 #[.int .i64 32, .int .u64 s, .int .u64 b] (.bool true)) (R1 : Ct 26 #[.int .i64 32, .int .u64 a, .int .u64 b] (.int .u64 rl)) (R2 : Ct 27 #[.int .i64 32, .int .u64 rl, .int .u64 b] (.int .u64 c)) (P1 : Ct 31 #[.int .i64 32, .int .u64 a] (.int .u64 p1)) (hy : bits .xor .u64 IntKind.u64.max a = y) (P2 : Ct 31 #[.int .i64 32, .int .u64 y] (.int .u64 p2)) (hp : IntKind.u64.wrap (p1 + p2) = p3) (hp3 : p3 = 32) (A3 : Ct 9 #[.int .i64 32, .int .u64 a, .int .u64 b] (.int .u64 ab)) (S3 : Ct 10 #[.int .i64 32, .int .u64 ab, .int .u64 b] (.int .u64 c)) : Ct 6 #[.int .i64 32, .int .u64 a, .int .u64 b] (.bool true) := by
  refine hide (fun W => ?_)
  have HB := hide (Below.refl W.heap.size W)
  go_enter Try.func6, Try.ntmps6
  go_wp2_with fail
  refine (unhide HA0 _).mono ?_
  rintro _ w1 ⟨rfl, hb⟩
  have HB := hide (bthen (unhide HB) hb)
  clear hb
  go_wp2_with fail
  refine (unhide D1 _).mono ?_
  rintro _ w2 ⟨rfl, hb⟩
  have HB := hide (bthen (unhide HB) hb)
  clear hb
  go_wp2_with fail
  refine (unhide D2 _).mono ?_
  rintro _ w3 ⟨rfl, hb⟩
  have HB := hide (bthen (unhide HB) hb)
  clear hb
  go_wp2_with fail
  refine (unhide D3 _).mono ?_
  rintro _ w4 ⟨rfl, hb⟩
  have HB := hide (bthen (unhide HB) hb)
  clear hb
  go_wp2_with fail
  refine (unhide D4 _).mono ?_
  rintro _ w5 ⟨rfl, hb⟩
  have HB := hide (bthen (unhide HB) hb)
  clear hb
  go_wp2_with fail
  refine (unhide M2 _).mono ?_
  rintro _ w6 ⟨rfl, hb⟩
  have HB := hide (bthen (unhide HB) hb)
  clear hb
  go_wp2_with fail
  refine (unhide A2 _).mono ?_
  rintro _ w7 ⟨rfl, hb⟩
  have HB := hide (bthen (unhide HB) hb)
  clear hb
  go_wp2_with fail
  refine (unhide L2 _).mono ?_
  rintro _ w8 ⟨rfl, hb⟩
  have HB := hide (bthen (unhide HB) hb)
  clear hb
  go_wp2_with fail
  refine (unhide R1 _).mono ?_
  rintro _ w9 ⟨rfl, hb⟩
  have HB := hide (bthen (unhide HB) hb)
  clear hb
  go_wp2_with fail
  refine (unhide R2 _).mono ?_
  rintro _ w10 ⟨rfl, hb⟩
  have HB := hide (bthen (unhide HB) hb)
  clear hb
  go_wp2_with fail
  refine (unhide P1 _).mono ?_
  rintro _ w11 ⟨rfl, hb⟩
  have HB := hide (bthen (unhide HB) hb)
  clear hb
  go_wp2_with fail
  refine (unhide P2 _).mono ?_
  rintro _ w12 ⟨rfl, hb⟩
  have HB := hide (bthen (unhide HB) hb)
  clear hb
  go_wp2_with fail
  refine (unhide A3 _).mono ?_
  rintro _ w13 ⟨rfl, hb⟩
  have HB := hide (bthen (unhide HB) hb)
  clear hb
  go_wp2_with fail
  refine (unhide S3 _).mono ?_
  rintro _ w14 ⟨rfl, hb⟩
  have HB := hide (bthen (unhide HB) hb)
  clear hb
  go_wp2_with fail
  go_ret
  exact ⟨by simp, unhide HB⟩
set_option maxHeartbeats 4000000 in
set_option maxRecDepth 100000 in
theorem back_64z {a b c rl p1 y p2 p3 ab : Int} (HA0 : Ct 8 #[] (.bool true)) (hc : IntKind.u64.wrap a = c) (D1 : Ct 18 #[.int .i64 64, .int .u64 a, .int .u64 b] (.tuple #[.int .u64 0, .int .i64 2])) (D2 : Ct 19 #[.int .i64 64, .int .u64 a, .int .u64 b] (.tuple #[.int .u64 0, .int .i64 2])) (D3 : Ct 16 #[.int .i64 64, .int .u64 a, .int .u64 b] (.tuple #[.int .u64 0, .int .i64 2])) (D4 : Ct 17 #[.int .i64 64, .int .u64 a, .int .u64 b] (.tuple #[.int .u64 0, .int .i64 2])) (R1 : Ct 26 #[.int .i64 64, .int .u64 a, .int .u64 b] (.int .u64 rl)) (R2 : Ct 27 #[.int .i64 64, .int .u64 rl, .int .u64 b] (.int .u64 c)) (P1 : Ct 31 #[.int .i64 64, .int .u64 a] (.int .u64 p1)) (hy : bits .xor .u64 IntKind.u64.max a = y) (P2 : Ct 31 #[.int .i64 64, .int .u64 y] (.int .u64 p2)) (hp : IntKind.u64.wrap (p1 + p2) = p3) (hp3 : p3 = 64) (A3 : Ct 9 #[.int .i64 64, .int .u64 a, .int .u64 b] (.int .u64 ab)) (S3 : Ct 10 #[.int .i64 64, .int .u64 ab, .int .u64 b] (.int .u64 c)) : Ct 6 #[.int .i64 64, .int .u64 a, .int .u64 b] (.bool true) := by
  refine hide (fun W => ?_)
  have HB := hide (Below.refl W.heap.size W)
  go_enter Try.func6, Try.ntmps6
  go_wp2_with fail
  refine (unhide HA0 _).mono ?_
  rintro _ w1 ⟨rfl, hb⟩
  have HB := hide (bthen (unhide HB) hb)
  clear hb
  go_wp2_with fail
  refine (unhide D1 _).mono ?_
  rintro _ w2 ⟨rfl, hb⟩
  have HB := hide (bthen (unhide HB) hb)
  clear hb
  go_wp2_with fail
  refine (unhide D2 _).mono ?_
  rintro _ w3 ⟨rfl, hb⟩
  have HB := hide (bthen (unhide HB) hb)
  clear hb
  go_wp2_with fail
  refine (unhide D3 _).mono ?_
  rintro _ w4 ⟨rfl, hb⟩
  have HB := hide (bthen (unhide HB) hb)
  clear hb
  go_wp2_with fail
  refine (unhide D4 _).mono ?_
  rintro _ w5 ⟨rfl, hb⟩
  have HB := hide (bthen (unhide HB) hb)
  clear hb
  go_wp2_with fail
  refine (unhide R1 _).mono ?_
  rintro _ w6 ⟨rfl, hb⟩
  have HB := hide (bthen (unhide HB) hb)
  clear hb
  go_wp2_with fail
  refine (unhide R2 _).mono ?_
  rintro _ w7 ⟨rfl, hb⟩
  have HB := hide (bthen (unhide HB) hb)
  clear hb
  go_wp2_with fail
  refine (unhide P1 _).mono ?_
  rintro _ w8 ⟨rfl, hb⟩
  have HB := hide (bthen (unhide HB) hb)
  clear hb
  go_wp2_with fail
  refine (unhide P2 _).mono ?_
  rintro _ w9 ⟨rfl, hb⟩
  have HB := hide (bthen (unhide HB) hb)
  clear hb
  go_wp2_with fail
  refine (unhide A3 _).mono ?_
  rintro _ w10 ⟨rfl, hb⟩
  have HB := hide (bthen (unhide HB) hb)
  clear hb
  go_wp2_with fail
  refine (unhide S3 _).mono ?_
  rintro _ w11 ⟨rfl, hb⟩
  have HB := hide (bthen (unhide HB) hb)
  clear hb
  go_wp2_with fail
  go_ret
  exact ⟨by simp, unhide HB⟩
set_option maxHeartbeats 4000000 in
set_option maxRecDepth 100000 in
theorem back_64n {a b c rl p1 y p2 p3 ab q r z1 p s z2 : Int} (HA0 : Ct 8 #[] (.bool true)) (hc : IntKind.u64.wrap a = c) (D1 : Ct 18 #[.int .i64 64, .int .u64 a, .int .u64 b] (.tuple #[.int .u64 q, .int .i64 0])) (D2 : Ct 19 #[.int .i64 64, .int .u64 a, .int .u64 b] (.tuple #[.int .u64 r, .int .i64 0])) (D3 : Ct 16 #[.int .i64 64, .int .u64 a, .int .u64 b] (.tuple #[.int .u64 p, .int .i64 0])) (D4 : Ct 17 #[.int .i64 64, .int .u64 a, .int .u64 b] (.tuple #[.int .u64 s, .int .i64 0])) (M1 : Ct 11 #[.int .i64 64, .int .u64 q, .int .u64 b] (.int .u64 z1)) (A1 : Ct 9 #[.int .i64 64, .int .u64 z1, .int .u64 r] (.int .u64 c)) (M2 : Ct 11 #[.int .i64 64, .int .u64 p, .int .u64 b] (.int .u64 z2)) (A2 : Ct 9 #[.int .i64 64, .int .u64 z2, .int .u64 s] (.int .u64 c)) (L2 : Ct 30 #[.int .i64 64, .int .u64 s, .int .u64 b] (.bool true)) (R1 : Ct 26 #[.int .i64 64, .int .u64 a, .int .u64 b] (.int .u64 rl)) (R2 : Ct 27 #[.int .i64 64, .int .u64 rl, .int .u64 b] (.int .u64 c)) (P1 : Ct 31 #[.int .i64 64, .int .u64 a] (.int .u64 p1)) (hy : bits .xor .u64 IntKind.u64.max a = y) (P2 : Ct 31 #[.int .i64 64, .int .u64 y] (.int .u64 p2)) (hp : IntKind.u64.wrap (p1 + p2) = p3) (hp3 : p3 = 64) (A3 : Ct 9 #[.int .i64 64, .int .u64 a, .int .u64 b] (.int .u64 ab)) (S3 : Ct 10 #[.int .i64 64, .int .u64 ab, .int .u64 b] (.int .u64 c)) : Ct 6 #[.int .i64 64, .int .u64 a, .int .u64 b] (.bool true) := by
  refine hide (fun W => ?_)
  have HB := hide (Below.refl W.heap.size W)
  go_enter Try.func6, Try.ntmps6
  go_wp2_with fail
  refine (unhide HA0 _).mono ?_
  rintro _ w1 ⟨rfl, hb⟩
  have HB := hide (bthen (unhide HB) hb)
  clear hb
  go_wp2_with fail
  refine (unhide D1 _).mono ?_
  rintro _ w2 ⟨rfl, hb⟩
  have HB := hide (bthen (unhide HB) hb)
  clear hb
  go_wp2_with fail
  refine (unhide D2 _).mono ?_
  rintro _ w3 ⟨rfl, hb⟩
  have HB := hide (bthen (unhide HB) hb)
  clear hb
  go_wp2_with fail
  refine (unhide D3 _).mono ?_
  rintro _ w4 ⟨rfl, hb⟩
  have HB := hide (bthen (unhide HB) hb)
  clear hb
  go_wp2_with fail
  refine (unhide D4 _).mono ?_
  rintro _ w5 ⟨rfl, hb⟩
  have HB := hide (bthen (unhide HB) hb)
  clear hb
  go_wp2_with fail
  refine (unhide M1 _).mono ?_
  rintro _ w6 ⟨rfl, hb⟩
  have HB := hide (bthen (unhide HB) hb)
  clear hb
  go_wp2_with fail
  refine (unhide A1 _).mono ?_
  rintro _ w7 ⟨rfl, hb⟩
  have HB := hide (bthen (unhide HB) hb)
  clear hb
  go_wp2_with fail
  refine (unhide M2 _).mono ?_
  rintro _ w8 ⟨rfl, hb⟩
  have HB := hide (bthen (unhide HB) hb)
  clear hb
  go_wp2_with fail
  refine (unhide A2 _).mono ?_
  rintro _ w9 ⟨rfl, hb⟩
  have HB := hide (bthen (unhide HB) hb)
  clear hb
  go_wp2_with fail
  refine (unhide L2 _).mono ?_
  rintro _ w10 ⟨rfl, hb⟩
  have HB := hide (bthen (unhide HB) hb)
  clear hb
  go_wp2_with fail
  refine (unhide R1 _).mono ?_
  rintro _ w11 ⟨rfl, hb⟩
  have HB := hide (bthen (unhide HB) hb)
  clear hb
  go_wp2_with fail
  refine (unhide R2 _).mono ?_
  rintro _ w12 ⟨rfl, hb⟩
  have HB := hide (bthen (unhide HB) hb)
  clear hb
  go_wp2_with fail
  refine (unhide P1 _).mono ?_
  rintro _ w13 ⟨rfl, hb⟩
  have HB := hide (bthen (unhide HB) hb)
  clear hb
  go_wp2_with fail
  refine (unhide P2 _).mono ?_
  rintro _ w14 ⟨rfl, hb⟩
  have HB := hide (bthen (unhide HB) hb)
  clear hb
  go_wp2_with fail
  refine (unhide A3 _).mono ?_
  rintro _ w15 ⟨rfl, hb⟩
  have HB := hide (bthen (unhide HB) hb)
  clear hb
  go_wp2_with fail
  refine (unhide S3 _).mono ?_
  rintro _ w16 ⟨rfl, hb⟩
  have HB := hide (bthen (unhide HB) hb)
  clear hb
  go_wp2_with fail
  go_ret
  exact ⟨by simp, unhide HB⟩
set_option maxHeartbeats 4000000 in
set_option maxRecDepth 100000 in
theorem back_64o {a b c rl p1 y p2 p3 ab p s z2 : Int} (HA0 : Ct 8 #[] (.bool true)) (hc : IntKind.u64.wrap a = c) (D1 : Ct 18 #[.int .i64 64, .int .u64 a, .int .u64 b] (.tuple #[.int .u64 0, .int .i64 3])) (D2 : Ct 19 #[.int .i64 64, .int .u64 a, .int .u64 b] (.tuple #[.int .u64 0, .int .i64 0])) (D3 : Ct 16 #[.int .i64 64, .int .u64 a, .int .u64 b] (.tuple #[.int .u64 p, .int .i64 0])) (D4 : Ct 17 #[.int .i64 64, .int .u64 a, .int .u64 b] (.tuple #[.int .u64 s, .int .i64 0])) (M2 : Ct 11 #[.int .i64 64, .int .u64 p, .int .u64 b] (.int .u64 z2)) (A2 : Ct 9 #[.int .i64 64, .int .u64 z2, .int .u64 s] (.int .u64 c)) (L2 : Ct 30 #[.int .i64 64, .int .u64 s, .int .u64 b] (.bool true)) (R1 : Ct 26 #[.int .i64 64, .int .u64 a, .int .u64 b] (.int .u64 rl)) (R2 : Ct 27 #[.int .i64 64, .int .u64 rl, .int .u64 b] (.int .u64 c)) (P1 : Ct 31 #[.int .i64 64, .int .u64 a] (.int .u64 p1)) (hy : bits .xor .u64 IntKind.u64.max a = y) (P2 : Ct 31 #[.int .i64 64, .int .u64 y] (.int .u64 p2)) (hp : IntKind.u64.wrap (p1 + p2) = p3) (hp3 : p3 = 64) (A3 : Ct 9 #[.int .i64 64, .int .u64 a, .int .u64 b] (.int .u64 ab)) (S3 : Ct 10 #[.int .i64 64, .int .u64 ab, .int .u64 b] (.int .u64 c)) : Ct 6 #[.int .i64 64, .int .u64 a, .int .u64 b] (.bool true) := by
  refine hide (fun W => ?_)
  have HB := hide (Below.refl W.heap.size W)
  go_enter Try.func6, Try.ntmps6
  go_wp2_with fail
  refine (unhide HA0 _).mono ?_
  rintro _ w1 ⟨rfl, hb⟩
  have HB := hide (bthen (unhide HB) hb)
  clear hb
  go_wp2_with fail
  refine (unhide D1 _).mono ?_
  rintro _ w2 ⟨rfl, hb⟩
  have HB := hide (bthen (unhide HB) hb)
  clear hb
  go_wp2_with fail
  refine (unhide D2 _).mono ?_
  rintro _ w3 ⟨rfl, hb⟩
  have HB := hide (bthen (unhide HB) hb)
  clear hb
  go_wp2_with fail
  refine (unhide D3 _).mono ?_
  rintro _ w4 ⟨rfl, hb⟩
  have HB := hide (bthen (unhide HB) hb)
  clear hb
  go_wp2_with fail
  refine (unhide D4 _).mono ?_
  rintro _ w5 ⟨rfl, hb⟩
  have HB := hide (bthen (unhide HB) hb)
  clear hb
  go_wp2_with fail
  refine (unhide M2 _).mono ?_
  rintro _ w6 ⟨rfl, hb⟩
  have HB := hide (bthen (unhide HB) hb)
  clear hb
  go_wp2_with fail
  refine (unhide A2 _).mono ?_
  rintro _ w7 ⟨rfl, hb⟩
  have HB := hide (bthen (unhide HB) hb)
  clear hb
  go_wp2_with fail
  refine (unhide L2 _).mono ?_
  rintro _ w8 ⟨rfl, hb⟩
  have HB := hide (bthen (unhide HB) hb)
  clear hb
  go_wp2_with fail
  refine (unhide R1 _).mono ?_
  rintro _ w9 ⟨rfl, hb⟩
  have HB := hide (bthen (unhide HB) hb)
  clear hb
  go_wp2_with fail
  refine (unhide R2 _).mono ?_
  rintro _ w10 ⟨rfl, hb⟩
  have HB := hide (bthen (unhide HB) hb)
  clear hb
  go_wp2_with fail
  refine (unhide P1 _).mono ?_
  rintro _ w11 ⟨rfl, hb⟩
  have HB := hide (bthen (unhide HB) hb)
  clear hb
  go_wp2_with fail
  refine (unhide P2 _).mono ?_
  rintro _ w12 ⟨rfl, hb⟩
  have HB := hide (bthen (unhide HB) hb)
  clear hb
  go_wp2_with fail
  refine (unhide A3 _).mono ?_
  rintro _ w13 ⟨rfl, hb⟩
  have HB := hide (bthen (unhide HB) hb)
  clear hb
  go_wp2_with fail
  refine (unhide S3 _).mono ?_
  rintro _ w14 ⟨rfl, hb⟩
  have HB := hide (bthen (unhide HB) hb)
  clear hb
  go_wp2_with fail
  go_ret
  exact ⟨by simp, unhide HB⟩
end Go.Proofs.Ytjlegmgpgfjciaa
