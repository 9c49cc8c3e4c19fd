/- InB, WhC. -/
import Derived.Test.YtpbgpdmffejdgaaGreatDoorS01
import Derived.Test.YtpbgpdmffejdgaaGreatDoorS16
import Derived.Test.YtpbgpdmffejdgaaGreatDoorS24
import Derived.Test.YtpbgpdmffejdgaaGreatDoorS31
namespace Go.Proofs.YtpbgpdmffejdgaaGreatDoor
open Go.RowKit

set_option maxHeartbeats 4000000 in
set_option maxRecDepth 100000 in
theorem sum32_r {a b A B v : Int} (hA : IntKind.u32.wrap a = A) (hB : IntKind.u32.wrap b = B) (HF : Ct 225 #[.int .u32 A, .int .u32 B] (.int .u64 v)) : Ct 212 #[.int .i64 32, .int .u64 a, .int .u64 b, .func (.func 225) #[] #[], .func (.func 226) #[] #[]] (.int .u64 v) := by
  refine hide (fun W => ?_)
  have HB := hide (Below.refl W.heap.size W)
  go_enter Tryz.func212, Tryz.ntmps212
  go_wp2_with fail
  refine (unhide HF _).mono ?_
  rintro _ w1 ⟨rfl, hb⟩
  have HB := hide (bthen (unhide HB) hb)
  clear hb
  go_wp2_with fail
  go_ret
  exact ⟨rfl, unhide HB⟩
set_option maxHeartbeats 4000000 in
set_option maxRecDepth 100000 in
theorem sum64_r {a b v : Int} (HF : Ct 226 #[.int .u64 a, .int .u64 b] (.int .u64 v)) : Ct 212 #[.int .i64 64, .int .u64 a, .int .u64 b, .func (.func 225) #[] #[], .func (.func 226) #[] #[]] (.int .u64 v) := by
  refine hide (fun W => ?_)
  have HB := hide (Below.refl W.heap.size W)
  go_enter Tryz.func212, Tryz.ntmps212
  go_wp2_with fail
  refine (unhide HF _).mono ?_
  rintro _ w1 ⟨rfl, hb⟩
  have HB := hide (bthen (unhide HB) hb)
  clear hb
  go_wp2_with fail
  go_ret
  exact ⟨rfl, unhide HB⟩
set_option maxHeartbeats 4000000 in
set_option maxRecDepth 100000 in
theorem dif32_r {a b A B v : Int} (hA : IntKind.u32.wrap a = A) (hB : IntKind.u32.wrap b = B) (HF : Ct 227 #[.int .u32 A, .int .u32 B] (.int .u64 v)) : Ct 212 #[.int .i64 32, .int .u64 a, .int .u64 b, .func (.func 227) #[] #[], .func (.func 228) #[] #[]] (.int .u64 v) := by
  refine hide (fun W => ?_)
  have HB := hide (Below.refl W.heap.size W)
  go_enter Tryz.func212, Tryz.ntmps212
  go_wp2_with fail
  refine (unhide HF _).mono ?_
  rintro _ w1 ⟨rfl, hb⟩
  have HB := hide (bthen (unhide HB) hb)
  clear hb
  go_wp2_with fail
  go_ret
  exact ⟨rfl, unhide HB⟩
set_option maxHeartbeats 4000000 in
set_option maxRecDepth 100000 in
theorem dif64_r {a b v : Int} (HF : Ct 228 #[.int .u64 a, .int .u64 b] (.int .u64 v)) : Ct 212 #[.int .i64 64, .int .u64 a, .int .u64 b, .func (.func 227) #[] #[], .func (.func 228) #[] #[]] (.int .u64 v) := by
  refine hide (fun W => ?_)
  have HB := hide (Below.refl W.heap.size W)
  go_enter Tryz.func212, Tryz.ntmps212
  go_wp2_with fail
  refine (unhide HF _).mono ?_
  rintro _ w1 ⟨rfl, hb⟩
  have HB := hide (bthen (unhide HB) hb)
  clear hb
  go_wp2_with fail
  go_ret
  exact ⟨rfl, unhide HB⟩
set_option maxHeartbeats 4000000 in
set_option maxRecDepth 100000 in
theorem pro32_r {a b A B v : Int} (hA : IntKind.u32.wrap a = A) (hB : IntKind.u32.wrap b = B) (HF : Ct 229 #[.int .u32 A, .int .u32 B] (.int .u64 v)) : Ct 212 #[.int .i64 32, .int .u64 a, .int .u64 b, .func (.func 229) #[] #[], .func (.func 230) #[] #[]] (.int .u64 v) := by
  refine hide (fun W => ?_)
  have HB := hide (Below.refl W.heap.size W)
  go_enter Tryz.func212, Tryz.ntmps212
  go_wp2_with fail
  refine (unhide HF _).mono ?_
  rintro _ w1 ⟨rfl, hb⟩
  have HB := hide (bthen (unhide HB) hb)
  clear hb
  go_wp2_with fail
  go_ret
  exact ⟨rfl, unhide HB⟩
set_option maxHeartbeats 4000000 in
set_option maxRecDepth 100000 in
theorem pro64_r {a b v : Int} (HF : Ct 230 #[.int .u64 a, .int .u64 b] (.int .u64 v)) : Ct 212 #[.int .i64 64, .int .u64 a, .int .u64 b, .func (.func 229) #[] #[], .func (.func 230) #[] #[]] (.int .u64 v) := by
  refine hide (fun W => ?_)
  have HB := hide (Below.refl W.heap.size W)
  go_enter Tryz.func212, Tryz.ntmps212
  go_wp2_with fail
  refine (unhide HF _).mono ?_
  rintro _ w1 ⟨rfl, hb⟩
  have HB := hide (bthen (unhide HB) hb)
  clear hb
  go_wp2_with fail
  go_ret
  exact ⟨rfl, unhide HB⟩
set_option maxHeartbeats 4000000 in
set_option maxRecDepth 100000 in
theorem lef32_r {a b A B v : Int} (hA : IntKind.u32.wrap a = A) (hB : IntKind.u32.wrap b = B) (HF : Ct 214 #[.int .u32 A, .int .u32 B] (.int .u64 v)) : Ct 212 #[.int .i64 32, .int .u64 a, .int .u64 b, .func (.func 214) #[] #[], .func (.func 215) #[] #[]] (.int .u64 v) := by
  refine hide (fun W => ?_)
  have HB := hide (Below.refl W.heap.size W)
  go_enter Tryz.func212, Tryz.ntmps212
  go_wp2_with fail
  refine (unhide HF _).mono ?_
  rintro _ w1 ⟨rfl, hb⟩
  have HB := hide (bthen (unhide HB) hb)
  clear hb
  go_wp2_with fail
  go_ret
  exact ⟨rfl, unhide HB⟩
set_option maxHeartbeats 4000000 in
set_option maxRecDepth 100000 in
theorem lef64_r {a b v : Int} (HF : Ct 215 #[.int .u64 a, .int .u64 b] (.int .u64 v)) : Ct 212 #[.int .i64 64, .int .u64 a, .int .u64 b, .func (.func 214) #[] #[], .func (.func 215) #[] #[]] (.int .u64 v) := by
  refine hide (fun W => ?_)
  have HB := hide (Below.refl W.heap.size W)
  go_enter Tryz.func212, Tryz.ntmps212
  go_wp2_with fail
  refine (unhide HF _).mono ?_
  rintro _ w1 ⟨rfl, hb⟩
  have HB := hide (bthen (unhide HB) hb)
  clear hb
  go_wp2_with fail
  go_ret
  exact ⟨rfl, unhide HB⟩
set_option maxHeartbeats 4000000 in
set_option maxRecDepth 100000 in
theorem rig32_r {a b A B v : Int} (hA : IntKind.u32.wrap a = A) (hB : IntKind.u32.wrap b = B) (HF : Ct 219 #[.int .u32 A, .int .u32 B] (.int .u64 v)) : Ct 212 #[.int .i64 32, .int .u64 a, .int .u64 b, .func (.func 219) #[] #[], .func (.func 220) #[] #[]] (.int .u64 v) := by
  refine hide (fun W => ?_)
  have HB := hide (Below.refl W.heap.size W)
  go_enter Tryz.func212, Tryz.ntmps212
  go_wp2_with fail
  refine (unhide HF _).mono ?_
  rintro _ w1 ⟨rfl, hb⟩
  have HB := hide (bthen (unhide HB) hb)
  clear hb
  go_wp2_with fail
  go_ret
  exact ⟨rfl, unhide HB⟩
set_option maxHeartbeats 4000000 in
set_option maxRecDepth 100000 in
theorem rig64_r {a b v : Int} (HF : Ct 220 #[.int .u64 a, .int .u64 b] (.int .u64 v)) : Ct 212 #[.int .i64 64, .int .u64 a, .int .u64 b, .func (.func 219) #[] #[], .func (.func 220) #[] #[]] (.int .u64 v) := by
  refine hide (fun W => ?_)
  have HB := hide (Below.refl W.heap.size W)
  go_enter Tryz.func212, Tryz.ntmps212
  go_wp2_with fail
  refine (unhide HF _).mono ?_
  rintro _ w1 ⟨rfl, hb⟩
  have HB := hide (bthen (unhide HB) hb)
  clear hb
  go_wp2_with fail
  go_ret
  exact ⟨rfl, unhide HB⟩
set_option maxHeartbeats 4000000 in
set_option maxRecDepth 100000 in
theorem sar32_r {a b A B v : Int} (hA : IntKind.i32.wrap a = A) (hB : IntKind.i32.wrap b = B) (HF : Ct 217 #[.int .i32 A, .int .i32 B] (.int .u64 v)) : Ct 216 #[.int .i64 32, .int .u64 a, .int .u64 b, .func (.func 217) #[] #[], .func (.func 218) #[] #[]] (.int .u64 v) := by
  refine hide (fun W => ?_)
  have HB := hide (Below.refl W.heap.size W)
  go_enter Tryz.func216, Tryz.ntmps216
  go_wp2_with fail
  refine (unhide HF _).mono ?_
  rintro _ w1 ⟨rfl, hb⟩
  have HB := hide (bthen (unhide HB) hb)
  clear hb
  go_wp2_with fail
  go_ret
  exact ⟨rfl, unhide HB⟩
set_option maxHeartbeats 4000000 in
set_option maxRecDepth 100000 in
theorem sar64_r {a b A B v : Int} (hA : IntKind.i64.wrap a = A) (hB : IntKind.i64.wrap b = B) (HF : Ct 218 #[.int .i64 A, .int .i64 B] (.int .u64 v)) : Ct 216 #[.int .i64 64, .int .u64 a, .int .u64 b, .func (.func 217) #[] #[], .func (.func 218) #[] #[]] (.int .u64 v) := by
  refine hide (fun W => ?_)
  have HB := hide (Below.refl W.heap.size W)
  go_enter Tryz.func216, Tryz.ntmps216
  go_wp2_with fail
  refine (unhide HF _).mono ?_
  rintro _ w1 ⟨rfl, hb⟩
  have HB := hide (bthen (unhide HB) hb)
  clear hb
  go_wp2_with fail
  go_ret
  exact ⟨rfl, unhide HB⟩
set_option maxHeartbeats 4000000 in
set_option maxRecDepth 100000 in
theorem ltu32_r {a b A B : Int} {v : Bool} (hA : IntKind.u32.wrap a = A) (hB : IntKind.u32.wrap b = B) (HF : Ct 127 #[.int .u32 A, .int .u32 B] (.bool v)) : Ct 126 #[.int .i64 32, .int .u64 a, .int .u64 b, .func (.func 127) #[] #[], .func (.func 128) #[] #[]] (.bool v) := by
  refine hide (fun W => ?_)
  have HB := hide (Below.refl W.heap.size W)
  go_enter Tryz.func126, Tryz.ntmps126
  go_wp2_with fail
  refine (unhide HF _).mono ?_
  rintro _ w1 ⟨rfl, hb⟩
  have HB := hide (bthen (unhide HB) hb)
  clear hb
  go_wp2_with fail
  go_ret
  exact ⟨rfl, unhide HB⟩
set_option maxHeartbeats 4000000 in
set_option maxRecDepth 100000 in
theorem ltu64_r {a b : Int} {v : Bool} (HF : Ct 128 #[.int .u64 a, .int .u64 b] (.bool v)) : Ct 126 #[.int .i64 64, .int .u64 a, .int .u64 b, .func (.func 127) #[] #[], .func (.func 128) #[] #[]] (.bool v) := by
  refine hide (fun W => ?_)
  have HB := hide (Below.refl W.heap.size W)
  go_enter Tryz.func126, Tryz.ntmps126
  go_wp2_with fail
  refine (unhide HF _).mono ?_
  rintro _ w1 ⟨rfl, hb⟩
  have HB := hide (bthen (unhide HB) hb)
  clear hb
  go_wp2_with fail
  go_ret
  exact ⟨rfl, unhide HB⟩
set_option maxHeartbeats 4000000 in
set_option maxRecDepth 100000 in
theorem divu32_r {a b A B q r t : Int} (hA : IntKind.u32.wrap a = A) (hB : IntKind.u32.wrap b = B) (HF : Ct 210 #[.int .u32 A, .int .u32 B] (.agg #[.int .u64 q, .int .u64 r, .int .i64 t])) : Ct 209 #[.int .i64 32, .int .u64 a, .int .u64 b, .func (.func 210) #[] #[], .func (.func 211) #[] #[]] (.agg #[.int .u64 q, .int .u64 r, .int .i64 t]) := by
  refine hide (fun W => ?_)
  go_enter Tryz.func209, Tryz.ntmps209
  go_wp2_with fail
  have HB := hide (below1 W (.cells #[.int .u64 0, .int .u64 0, .int .i64 0] 127))
  have HR : Hid (Room W.heap.size 3 (W.alloc (.cells #[.int .u64 0, .int .u64 0, .int .i64 0] 127))) := by
    intro o ho
    match o, ho with
    | 0, _ | 1, _ | 2, _ => simp [go_sem]
  refine (unhide HF _).mono ?_
  rintro _ w1 ⟨rfl, hb⟩
  have HB := hide (bthen (unhide HB) hb)
  have HR := hide ((unhide HR).below hb)
  clear hb
  obtain ⟨⟨v0, c0⟩, f0⟩ := (unhide HR) 0 (by omega)
  obtain ⟨⟨v1, c1⟩, f1⟩ := (unhide HR) 1 (by omega)
  obtain ⟨⟨v2, c2⟩, f2⟩ := (unhide HR) 2 (by omega)
  have zy := lt_of_cell c0
  go_wp2
  exact bodyPost_ret (v := .agg #[.int .u64 q, .int .u64 r, .int .i64 t]) (by simp (maxDischargeDepth := 8) [results, Tryz.results209, go_sem, c0, c1, c2]) rfl ⟨rfl, bset (bset (bset (unhide HB) _ (Nat.le_refl _) _ _) _ (Nat.le_refl _) _ _) _ (Nat.le_refl _) _ _⟩
set_option maxHeartbeats 4000000 in
set_option maxRecDepth 100000 in
theorem divu64_r {a b q r t : Int} (HF : Ct 211 #[.int .u64 a, .int .u64 b] (.agg #[.int .u64 q, .int .u64 r, .int .i64 t])) : Ct 209 #[.int .i64 64, .int .u64 a, .int .u64 b, .func (.func 210) #[] #[], .func (.func 211) #[] #[]] (.agg #[.int .u64 q, .int .u64 r, .int .i64 t]) := by
  refine hide (fun W => ?_)
  go_enter Tryz.func209, Tryz.ntmps209
  go_wp2_with fail
  have HB := hide (below1 W (.cells #[.int .u64 0, .int .u64 0, .int .i64 0] 127))
  have HR : Hid (Room W.heap.size 3 (W.alloc (.cells #[.int .u64 0, .int .u64 0, .int .i64 0] 127))) := by
    intro o ho
    match o, ho with
    | 0, _ | 1, _ | 2, _ => simp [go_sem]
  refine (unhide HF _).mono ?_
  rintro _ w1 ⟨rfl, hb⟩
  have HB := hide (bthen (unhide HB) hb)
  have HR := hide ((unhide HR).below hb)
  clear hb
  obtain ⟨⟨v0, c0⟩, f0⟩ := (unhide HR) 0 (by omega)
  obtain ⟨⟨v1, c1⟩, f1⟩ := (unhide HR) 1 (by omega)
  obtain ⟨⟨v2, c2⟩, f2⟩ := (unhide HR) 2 (by omega)
  have zy := lt_of_cell c0
  go_wp2
  exact bodyPost_ret (v := .agg #[.int .u64 q, .int .u64 r, .int .i64 t]) (by simp (maxDischargeDepth := 8) [results, Tryz.results209, go_sem, c0, c1, c2]) rfl ⟨rfl, bset (bset (bset (unhide HB) _ (Nat.le_refl _) _ _) _ (Nat.le_refl _) _ _) _ (Nat.le_refl _) _ _⟩
set_option maxHeartbeats 4000000 in
set_option maxRecDepth 100000 in
theorem divs32_r {a b A B q r t : Int} (hA : IntKind.i32.wrap a = A) (hB : IntKind.i32.wrap b = B) (HF : Ct 207 #[.int .i32 A, .int .i32 B] (.agg #[.int .u64 q, .int .u64 r, .int .i64 t])) : Ct 206 #[.int .i64 32, .int .u64 a, .int .u64 b, .func (.func 207) #[] #[], .func (.func 208) #[] #[]] (.agg #[.int .u64 q, .int .u64 r, .int .i64 t]) := by
  refine hide (fun W => ?_)
  go_enter Tryz.func206, Tryz.ntmps206
  go_wp2_with fail
  have HB := hide (below1 W (.cells #[.int .u64 0, .int .u64 0, .int .i64 0] 127))
  have HR : Hid (Room W.heap.size 3 (W.alloc (.cells #[.int .u64 0, .int .u64 0, .int .i64 0] 127))) := by
    intro o ho
    match o, ho with
    | 0, _ | 1, _ | 2, _ => simp [go_sem]
  refine (unhide HF _).mono ?_
  rintro _ w1 ⟨rfl, hb⟩
  have HB := hide (bthen (unhide HB) hb)
  have HR := hide ((unhide HR).below hb)
  clear hb
  obtain ⟨⟨v0, c0⟩, f0⟩ := (unhide HR) 0 (by omega)
  obtain ⟨⟨v1, c1⟩, f1⟩ := (unhide HR) 1 (by omega)
  obtain ⟨⟨v2, c2⟩, f2⟩ := (unhide HR) 2 (by omega)
  have zy := lt_of_cell c0
  go_wp2
  exact bodyPost_ret (v := .agg #[.int .u64 q, .int .u64 r, .int .i64 t]) (by simp (maxDischargeDepth := 8) [results, Tryz.results206, go_sem, c0, c1, c2]) rfl ⟨rfl, bset (bset (bset (unhide HB) _ (Nat.le_refl _) _ _) _ (Nat.le_refl _) _ _) _ (Nat.le_refl _) _ _⟩
set_option maxHeartbeats 4000000 in
set_option maxRecDepth 100000 in
theorem divs64_r {a b A B q r t : Int} (hA : IntKind.i64.wrap a = A) (hB : IntKind.i64.wrap b = B) (HF : Ct 208 #[.int .i64 A, .int .i64 B] (.agg #[.int .u64 q, .int .u64 r, .int .i64 t])) : Ct 206 #[.int .i64 64, .int .u64 a, .int .u64 b, .func (.func 207) #[] #[], .func (.func 208) #[] #[]] (.agg #[.int .u64 q, .int .u64 r, .int .i64 t]) := by
  refine hide (fun W => ?_)
  go_enter Tryz.func206, Tryz.ntmps206
  go_wp2_with fail
  have HB := hide (below1 W (.cells #[.int .u64 0, .int .u64 0, .int .i64 0] 127))
  have HR : Hid (Room W.heap.size 3 (W.alloc (.cells #[.int .u64 0, .int .u64 0, .int .i64 0] 127))) := by
    intro o ho
    match o, ho with
    | 0, _ | 1, _ | 2, _ => simp [go_sem]
  refine (unhide HF _).mono ?_
  rintro _ w1 ⟨rfl, hb⟩
  have HB := hide (bthen (unhide HB) hb)
  have HR := hide ((unhide HR).below hb)
  clear hb
  obtain ⟨⟨v0, c0⟩, f0⟩ := (unhide HR) 0 (by omega)
  obtain ⟨⟨v1, c1⟩, f1⟩ := (unhide HR) 1 (by omega)
  obtain ⟨⟨v2, c2⟩, f2⟩ := (unhide HR) 2 (by omega)
  have zy := lt_of_cell c0
  go_wp2
  exact bodyPost_ret (v := .agg #[.int .u64 q, .int .u64 r, .int .i64 t]) (by simp (maxDischargeDepth := 8) [results, Tryz.results206, go_sem, c0, c1, c2]) rfl ⟨rfl, bset (bset (bset (unhide HB) _ (Nat.le_refl _) _ _) _ (Nat.le_refl _) _ _) _ (Nat.le_refl _) _ _⟩
set_option maxHeartbeats 4000000 in
set_option maxRecDepth 100000 in
theorem lts32_r {a b A B : Int} {v : Bool} (hA : IntKind.i32.wrap a = A) (hB : IntKind.i32.wrap b = B) (HF : Ct 124 #[.int .i32 A, .int .i32 B] (.bool v)) : Ct 123 #[.int .i64 32, .int .u64 a, .int .u64 b, .func (.func 124) #[] #[], .func (.func 125) #[] #[]] (.bool v) := by
  refine hide (fun W => ?_)
  have HB := hide (Below.refl W.heap.size W)
  go_enter Tryz.func123, Tryz.ntmps123
  go_wp2_with fail
  refine (unhide HF _).mono ?_
  rintro _ w1 ⟨rfl, hb⟩
  have HB := hide (bthen (unhide HB) hb)
  clear hb
  go_wp2_with fail
  go_ret
  exact ⟨rfl, unhide HB⟩
set_option maxHeartbeats 4000000 in
set_option maxRecDepth 100000 in
theorem lts64_r {a b A B : Int} {v : Bool} (hA : IntKind.i64.wrap a = A) (hB : IntKind.i64.wrap b = B) (HF : Ct 125 #[.int .i64 A, .int .i64 B] (.bool v)) : Ct 123 #[.int .i64 64, .int .u64 a, .int .u64 b, .func (.func 124) #[] #[], .func (.func 125) #[] #[]] (.bool v) := by
  refine hide (fun W => ?_)
  have HB := hide (Below.refl W.heap.size W)
  go_enter Tryz.func123, Tryz.ntmps123
  go_wp2_with fail
  refine (unhide HF _).mono ?_
  rintro _ w1 ⟨rfl, hb⟩
  have HB := hide (bthen (unhide HB) hb)
  clear hb
  go_wp2_with fail
  go_ret
  exact ⟨rfl, unhide HB⟩
end Go.Proofs.YtpbgpdmffejdgaaGreatDoor
namespace Go.Proofs.YtpbgpdmffejdgaaGreatDoor
open Go.RowKit
open Go.Proofs.YtpbgpdmffejdgaaGreatDoor.W

set_option maxRecDepth 100000 in
set_option maxHeartbeats 2000000 in
theorem ceil_c {n a m o : Bool} (W : World)  :
    Calls Tryz.prog 151 #[.bool n, .agg #[.bool a, .bool m, .bool o]] W fun r W' => r = .returned (.bool (!n)) ∧ Below W.heap.size W W' := by
  go_enter Tryz.func151, Tryz.ntmps151
  go_wp2_with fail
  go_ret
  exact ⟨by first | rfl | simp, below1 W (.cells #[.bool a, .bool m, .bool o] 132)⟩
set_option maxRecDepth 100000 in
set_option maxHeartbeats 2000000 in
theorem floor_c {n a m o : Bool} (W : World)  :
    Calls Tryz.prog 152 #[.bool n, .agg #[.bool a, .bool m, .bool o]] W fun r W' => r = .returned (.bool n) ∧ Below W.heap.size W W' := by
  go_enter Tryz.func152, Tryz.ntmps152
  go_wp2_with fail
  go_ret
  exact ⟨by first | rfl | simp, below1 W (.cells #[.bool a, .bool m, .bool o] 132)⟩
set_option maxRecDepth 100000 in
set_option maxHeartbeats 2000000 in
theorem trunc_c {n a m o : Bool} (W : World)  :
    Calls Tryz.prog 153 #[.bool n, .agg #[.bool a, .bool m, .bool o]] W fun r W' => r = .returned (.bool false) ∧ Below W.heap.size W W' := by
  go_enter Tryz.func153, Tryz.ntmps153
  go_wp2_with fail
  go_ret
  exact ⟨by first | rfl | simp, below1 W (.cells #[.bool a, .bool m, .bool o] 132)⟩
set_option maxRecDepth 100000 in
set_option maxHeartbeats 2000000 in
theorem near_c0 {n m o : Bool} (W : World)  :
    Calls Tryz.prog 154 #[.bool n, .agg #[.bool false, .bool m, .bool o]] W fun r W' => r = .returned (.bool false) ∧ Below W.heap.size W W' := by
  go_enter Tryz.func154, Tryz.ntmps154
  go_wp2_with fail
  go_ret
  exact ⟨by first | rfl | simp, below1 W (.cells #[.bool false, .bool m, .bool o] 132)⟩
set_option maxRecDepth 100000 in
set_option maxHeartbeats 2000000 in
theorem near_c1 {n o : Bool} (W : World)  :
    Calls Tryz.prog 154 #[.bool n, .agg #[.bool true, .bool true, .bool o]] W fun r W' => r = .returned (.bool true) ∧ Below W.heap.size W W' := by
  go_enter Tryz.func154, Tryz.ntmps154
  go_wp2_with fail
  go_ret
  exact ⟨by first | rfl | simp, below1 W (.cells #[.bool true, .bool true, .bool o] 132)⟩
set_option maxRecDepth 100000 in
set_option maxHeartbeats 2000000 in
theorem near_c2 {n o : Bool} (W : World)  :
    Calls Tryz.prog 154 #[.bool n, .agg #[.bool true, .bool false, .bool o]] W fun r W' => r = .returned (.bool o) ∧ Below W.heap.size W W' := by
  go_enter Tryz.func154, Tryz.ntmps154
  go_wp2_with fail
  go_ret
  exact ⟨by first | rfl | simp, below1 W (.cells #[.bool true, .bool false, .bool o] 132)⟩
set_option maxRecDepth 100000 in
set_option maxHeartbeats 2000000 in
theorem next_ceil_w {w x K1 X1 S1 V : Int} {n1 : Bool} (W : World) (HO : Ct 15 #[.int .i64 w, .int .u64 x] (.agg #[.bool n1, .int .i64 K1, .int .i64 X1, .int .u64 S1])) (HK : Ct 231 #[.agg #[.bool n1, .int .i64 K1, .int .i64 X1, .int .u64 S1]] (.bool false)) (HN : Ct 170 #[.int .i64 w, .agg #[.bool n1, .int .i64 K1, .int .i64 X1, .int .u64 S1]] (.int .u64 V)) :
    Calls Tryz.prog 150 #[.int .i64 w, .int .u64 x, .func (.func 151) #[] #[]] W fun r W' => r = .returned (.int .u64 V) ∧ Below W.heap.size W W' := by
  go_enter Tryz.func150, Tryz.ntmps150
  go_wp2_with fail
  refine (unhide HO _).mono ?_
  rintro _ w1 ⟨rfl, hb⟩
  have HB := hide (balloc hb (.cells #[.bool n1, .int .i64 K1, .int .i64 X1, .int .u64 S1] 37))
  have HA := hide (at4_new w1 (.bool n1) (.int .i64 K1) (.int .i64 X1) (.int .u64 S1) 37)
  clear hb
  obtain ⟨c0, c1, c2, c3⟩ := unhide HA
  go_wp2_with fail
  clear c0 c1 c2 c3
  refine (unhide HK _).mono ?_
  rintro _ w2 ⟨rfl, hb⟩
  have HB := hide (bthen (unhide HB) hb)
  have HA := hide ((unhide HA).below hb)
  clear hb
  obtain ⟨c0, c1, c2, c3⟩ := unhide HA
  go_wp2_with fail
  clear c0 c1 c2 c3
  refine (unhide HN _).mono ?_
  rintro _ w3 ⟨rfl, hb⟩
  have HB := hide (bthen (unhide HB) hb)
  clear hb
  go_wp2_with fail
  go_ret
  exact ⟨rfl, unhide HB⟩
set_option maxRecDepth 100000 in
set_option maxHeartbeats 2000000 in
theorem next_ceil_t {w x K1 X1 S1 V n h l : Int} {n1 a m o : Bool} (W : World) (HO : Ct 15 #[.int .i64 w, .int .u64 x] (.agg #[.bool n1, .int .i64 K1, .int .i64 X1, .int .u64 S1])) (HK : Ct 231 #[.agg #[.bool n1, .int .i64 K1, .int .i64 X1, .int .u64 S1]] (.bool true)) (HS : Ct 232 #[.agg #[.bool n1, .int .i64 K1, .int .i64 X1, .int .u64 S1]] (.tuple #[.int .u64 n, .agg #[.bool a, .bool m, .bool o]])) (HF : Ct 151 #[.bool n1, .agg #[.bool a, .bool m, .bool o]] (.bool true)) (kn : IntKind.u64.wrap (n + 1) = n + 1) (HW : Ct 161 #[.int .u64 (n + 1)] (.agg #[.int .u64 h, .int .u64 l])) (HP : Ct 160 #[.int .i64 w, .bool n1, .agg #[.int .u64 h, .int .u64 l], .int .i64 0, .bool false] (.int .u64 V)) :
    Calls Tryz.prog 150 #[.int .i64 w, .int .u64 x, .func (.func 151) #[] #[]] W fun r W' => r = .returned (.int .u64 V) ∧ Below W.heap.size W W' := by
  go_enter Tryz.func150, Tryz.ntmps150
  go_wp2_with fail
  refine (unhide HO _).mono ?_
  rintro _ w1 ⟨rfl, hb⟩
  have HB := hide (balloc hb (.cells #[.bool n1, .int .i64 K1, .int .i64 X1, .int .u64 S1] 37))
  have HA := hide (at4_new w1 (.bool n1) (.int .i64 K1) (.int .i64 X1) (.int .u64 S1) 37)
  clear hb
  obtain ⟨c0, c1, c2, c3⟩ := unhide HA
  go_wp2_with fail
  clear c0 c1 c2 c3
  refine (unhide HK _).mono ?_
  rintro _ w2 ⟨rfl, hb⟩
  have HB := hide (bthen (unhide HB) hb)
  have HA := hide ((unhide HA).below hb)
  clear hb
  obtain ⟨c0, c1, c2, c3⟩ := unhide HA
  go_wp2_with fail
  clear c0 c1 c2 c3
  refine (unhide HS _).mono ?_
  rintro _ w3 ⟨rfl, hb⟩
  have HB := hide (balloc (bthen (unhide HB) hb) (.cells #[.bool a, .bool m, .bool o] 132))
  have HA := hide (((unhide HA).below hb).below (below1 _ (.cells #[.bool a, .bool m, .bool o] 132)))
  clear hb
  obtain ⟨c0, c1, c2, c3⟩ := unhide HA
  go_wp2_with fail
  clear c0 c1 c2 c3
  refine (unhide HF _).mono ?_
  rintro _ w4 ⟨rfl, hb⟩
  have HB := hide (bthen (unhide HB) hb)
  have HA := hide ((unhide HA).below hb)
  clear hb
  go_wp2_with fail
  have HB := hide (unhide HB).drew
  have HA := hide ((unhide HA).below ((Below.refl _ _).drew))
  refine wp_region_held_drew (S := fun w' => (w'.cell? ⟨w1.heap.size, 0, none⟩ = some (.bool n1) ∧ w'.cell? ⟨w1.heap.size, 1, none⟩ = some (.int .i64 K1) ∧ w'.cell? ⟨w1.heap.size, 2, none⟩ = some (.int .i64 X1) ∧ w'.cell? ⟨w1.heap.size, 3, none⟩ = some (.int .u64 S1))) (by kernel_rfl) ?_ (fun hHeld => ?_)
  · (try dsimp only)
    exact unhide HA
  refine lst0 7 (by kernel_rfl) ?_
  refine tkA 0 31 1 ?_
  refine tkA 1 32 3 ?_
  refine tkA 2 33 7 ?_
  refine tkA 3 34 15 ?_
  refine rdA 4 31 (fun Kk hKk => ?_)
  go_simp
  refine (unhide HW _).mono ?_
  rintro _ w5 ⟨rfl, hbl⟩
  have HB := hide (bthen (unhide HB) hbl)
  have HA := hide ((unhide HA).below hbl)
  clear hbl
  (try go_wp2_with fail)
  refine hKk.out _ _ ?_ (fun hHeld => ?_)
  · (try dsimp only)
    exact unhide HA
  clear hKk Kk
  (try simp only [List.setIfInBounds_toArray, List.set_cons_zero, List.set_cons_succ])
  refine rdA 5 63 (fun Kk hKk => ?_)
  go_simp
  refine (unhide HP _).mono ?_
  rintro _ w6 ⟨rfl, hbl⟩
  have HB := hide (bthen (unhide HB) hbl)
  have HA := hide ((unhide HA).below hbl)
  clear hbl
  (try go_wp2_with fail)
  refine hKk.out _ _ ?_ (fun hHeld => ?_)
  · (try dsimp only)
    exact unhide HA
  clear hKk Kk
  (try simp only [List.setIfInBounds_toArray, List.set_cons_zero, List.set_cons_succ])
  refine tkA 6 6 127 ?_
  refine wpAnyH_done (by kernel_rfl) ?_ _
  go_wp2
  go_ret
  exact ⟨rfl, unhide HB⟩
set_option maxRecDepth 100000 in
set_option maxHeartbeats 2000000 in
theorem next_ceil_f {w x K1 X1 S1 V n h l : Int} {n1 a m o : Bool} (W : World) (HO : Ct 15 #[.int .i64 w, .int .u64 x] (.agg #[.bool n1, .int .i64 K1, .int .i64 X1, .int .u64 S1])) (HK : Ct 231 #[.agg #[.bool n1, .int .i64 K1, .int .i64 X1, .int .u64 S1]] (.bool true)) (HS : Ct 232 #[.agg #[.bool n1, .int .i64 K1, .int .i64 X1, .int .u64 S1]] (.tuple #[.int .u64 n, .agg #[.bool a, .bool m, .bool o]])) (HF : Ct 151 #[.bool n1, .agg #[.bool a, .bool m, .bool o]] (.bool false)) (HW : Ct 161 #[.int .u64 n] (.agg #[.int .u64 h, .int .u64 l])) (HP : Ct 160 #[.int .i64 w, .bool n1, .agg #[.int .u64 h, .int .u64 l], .int .i64 0, .bool false] (.int .u64 V)) :
    Calls Tryz.prog 150 #[.int .i64 w, .int .u64 x, .func (.func 151) #[] #[]] W fun r W' => r = .returned (.int .u64 V) ∧ Below W.heap.size W W' := by
  go_enter Tryz.func150, Tryz.ntmps150
  go_wp2_with fail
  refine (unhide HO _).mono ?_
  rintro _ w1 ⟨rfl, hb⟩
  have HB := hide (balloc hb (.cells #[.bool n1, .int .i64 K1, .int .i64 X1, .int .u64 S1] 37))
  have HA := hide (at4_new w1 (.bool n1) (.int .i64 K1) (.int .i64 X1) (.int .u64 S1) 37)
  clear hb
  obtain ⟨c0, c1, c2, c3⟩ := unhide HA
  go_wp2_with fail
  clear c0 c1 c2 c3
  refine (unhide HK _).mono ?_
  rintro _ w2 ⟨rfl, hb⟩
  have HB := hide (bthen (unhide HB) hb)
  have HA := hide ((unhide HA).below hb)
  clear hb
  obtain ⟨c0, c1, c2, c3⟩ := unhide HA
  go_wp2_with fail
  clear c0 c1 c2 c3
  refine (unhide HS _).mono ?_
  rintro _ w3 ⟨rfl, hb⟩
  have HB := hide (balloc (bthen (unhide HB) hb) (.cells #[.bool a, .bool m, .bool o] 132))
  have HA := hide (((unhide HA).below hb).below (below1 _ (.cells #[.bool a, .bool m, .bool o] 132)))
  clear hb
  obtain ⟨c0, c1, c2, c3⟩ := unhide HA
  go_wp2_with fail
  clear c0 c1 c2 c3
  refine (unhide HF _).mono ?_
  rintro _ w4 ⟨rfl, hb⟩
  have HB := hide (bthen (unhide HB) hb)
  have HA := hide ((unhide HA).below hb)
  clear hb
  go_wp2_with fail
  have HB := hide (unhide HB).drew
  have HA := hide ((unhide HA).below ((Below.refl _ _).drew))
  refine wp_region_held_drew (S := fun w' => (w'.cell? ⟨w1.heap.size, 0, none⟩ = some (.bool n1) ∧ w'.cell? ⟨w1.heap.size, 1, none⟩ = some (.int .i64 K1) ∧ w'.cell? ⟨w1.heap.size, 2, none⟩ = some (.int .i64 X1) ∧ w'.cell? ⟨w1.heap.size, 3, none⟩ = some (.int .u64 S1))) (by kernel_rfl) ?_ (fun hHeld => ?_)
  · (try dsimp only)
    exact unhide HA
  refine lst0 7 (by kernel_rfl) ?_
  refine tkA 0 31 1 ?_
  refine tkA 1 32 3 ?_
  refine tkA 2 33 7 ?_
  refine tkA 3 34 15 ?_
  refine rdA 4 31 (fun Kk hKk => ?_)
  go_simp
  refine (unhide HW _).mono ?_
  rintro _ w5 ⟨rfl, hbl⟩
  have HB := hide (bthen (unhide HB) hbl)
  have HA := hide ((unhide HA).below hbl)
  clear hbl
  (try go_wp2_with fail)
  refine hKk.out _ _ ?_ (fun hHeld => ?_)
  · (try dsimp only)
    exact unhide HA
  clear hKk Kk
  (try simp only [List.setIfInBounds_toArray, List.set_cons_zero, List.set_cons_succ])
  refine rdA 5 63 (fun Kk hKk => ?_)
  go_simp
  refine (unhide HP _).mono ?_
  rintro _ w6 ⟨rfl, hbl⟩
  have HB := hide (bthen (unhide HB) hbl)
  have HA := hide ((unhide HA).below hbl)
  clear hbl
  (try go_wp2_with fail)
  refine hKk.out _ _ ?_ (fun hHeld => ?_)
  · (try dsimp only)
    exact unhide HA
  clear hKk Kk
  (try simp only [List.setIfInBounds_toArray, List.set_cons_zero, List.set_cons_succ])
  refine tkA 6 6 127 ?_
  refine wpAnyH_done (by kernel_rfl) ?_ _
  go_wp2
  go_ret
  exact ⟨rfl, unhide HB⟩
set_option maxRecDepth 100000 in
set_option maxHeartbeats 2000000 in
theorem next_floor_w {w x K1 X1 S1 V : Int} {n1 : Bool} (W : World) (HO : Ct 15 #[.int .i64 w, .int .u64 x] (.agg #[.bool n1, .int .i64 K1, .int .i64 X1, .int .u64 S1])) (HK : Ct 231 #[.agg #[.bool n1, .int .i64 K1, .int .i64 X1, .int .u64 S1]] (.bool false)) (HN : Ct 170 #[.int .i64 w, .agg #[.bool n1, .int .i64 K1, .int .i64 X1, .int .u64 S1]] (.int .u64 V)) :
    Calls Tryz.prog 150 #[.int .i64 w, .int .u64 x, .func (.func 152) #[] #[]] W fun r W' => r = .returned (.int .u64 V) ∧ Below W.heap.size W W' := by
  go_enter Tryz.func150, Tryz.ntmps150
  go_wp2_with fail
  refine (unhide HO _).mono ?_
  rintro _ w1 ⟨rfl, hb⟩
  have HB := hide (balloc hb (.cells #[.bool n1, .int .i64 K1, .int .i64 X1, .int .u64 S1] 37))
  have HA := hide (at4_new w1 (.bool n1) (.int .i64 K1) (.int .i64 X1) (.int .u64 S1) 37)
  clear hb
  obtain ⟨c0, c1, c2, c3⟩ := unhide HA
  go_wp2_with fail
  clear c0 c1 c2 c3
  refine (unhide HK _).mono ?_
  rintro _ w2 ⟨rfl, hb⟩
  have HB := hide (bthen (unhide HB) hb)
  have HA := hide ((unhide HA).below hb)
  clear hb
  obtain ⟨c0, c1, c2, c3⟩ := unhide HA
  go_wp2_with fail
  clear c0 c1 c2 c3
  refine (unhide HN _).mono ?_
  rintro _ w3 ⟨rfl, hb⟩
  have HB := hide (bthen (unhide HB) hb)
  clear hb
  go_wp2_with fail
  go_ret
  exact ⟨rfl, unhide HB⟩
set_option maxRecDepth 100000 in
set_option maxHeartbeats 2000000 in
theorem next_floor_t {w x K1 X1 S1 V n h l : Int} {n1 a m o : Bool} (W : World) (HO : Ct 15 #[.int .i64 w, .int .u64 x] (.agg #[.bool n1, .int .i64 K1, .int .i64 X1, .int .u64 S1])) (HK : Ct 231 #[.agg #[.bool n1, .int .i64 K1, .int .i64 X1, .int .u64 S1]] (.bool true)) (HS : Ct 232 #[.agg #[.bool n1, .int .i64 K1, .int .i64 X1, .int .u64 S1]] (.tuple #[.int .u64 n, .agg #[.bool a, .bool m, .bool o]])) (HF : Ct 152 #[.bool n1, .agg #[.bool a, .bool m, .bool o]] (.bool true)) (kn : IntKind.u64.wrap (n + 1) = n + 1) (HW : Ct 161 #[.int .u64 (n + 1)] (.agg #[.int .u64 h, .int .u64 l])) (HP : Ct 160 #[.int .i64 w, .bool n1, .agg #[.int .u64 h, .int .u64 l], .int .i64 0, .bool false] (.int .u64 V)) :
    Calls Tryz.prog 150 #[.int .i64 w, .int .u64 x, .func (.func 152) #[] #[]] W fun r W' => r = .returned (.int .u64 V) ∧ Below W.heap.size W W' := by
  go_enter Tryz.func150, Tryz.ntmps150
  go_wp2_with fail
  refine (unhide HO _).mono ?_
  rintro _ w1 ⟨rfl, hb⟩
  have HB := hide (balloc hb (.cells #[.bool n1, .int .i64 K1, .int .i64 X1, .int .u64 S1] 37))
  have HA := hide (at4_new w1 (.bool n1) (.int .i64 K1) (.int .i64 X1) (.int .u64 S1) 37)
  clear hb
  obtain ⟨c0, c1, c2, c3⟩ := unhide HA
  go_wp2_with fail
  clear c0 c1 c2 c3
  refine (unhide HK _).mono ?_
  rintro _ w2 ⟨rfl, hb⟩
  have HB := hide (bthen (unhide HB) hb)
  have HA := hide ((unhide HA).below hb)
  clear hb
  obtain ⟨c0, c1, c2, c3⟩ := unhide HA
  go_wp2_with fail
  clear c0 c1 c2 c3
  refine (unhide HS _).mono ?_
  rintro _ w3 ⟨rfl, hb⟩
  have HB := hide (balloc (bthen (unhide HB) hb) (.cells #[.bool a, .bool m, .bool o] 132))
  have HA := hide (((unhide HA).below hb).below (below1 _ (.cells #[.bool a, .bool m, .bool o] 132)))
  clear hb
  obtain ⟨c0, c1, c2, c3⟩ := unhide HA
  go_wp2_with fail
  clear c0 c1 c2 c3
  refine (unhide HF _).mono ?_
  rintro _ w4 ⟨rfl, hb⟩
  have HB := hide (bthen (unhide HB) hb)
  have HA := hide ((unhide HA).below hb)
  clear hb
  go_wp2_with fail
  have HB := hide (unhide HB).drew
  have HA := hide ((unhide HA).below ((Below.refl _ _).drew))
  refine wp_region_held_drew (S := fun w' => (w'.cell? ⟨w1.heap.size, 0, none⟩ = some (.bool n1) ∧ w'.cell? ⟨w1.heap.size, 1, none⟩ = some (.int .i64 K1) ∧ w'.cell? ⟨w1.heap.size, 2, none⟩ = some (.int .i64 X1) ∧ w'.cell? ⟨w1.heap.size, 3, none⟩ = some (.int .u64 S1))) (by kernel_rfl) ?_ (fun hHeld => ?_)
  · (try dsimp only)
    exact unhide HA
  refine lst0 7 (by kernel_rfl) ?_
  refine tkA 0 31 1 ?_
  refine tkA 1 32 3 ?_
  refine tkA 2 33 7 ?_
  refine tkA 3 34 15 ?_
  refine rdA 4 31 (fun Kk hKk => ?_)
  go_simp
  refine (unhide HW _).mono ?_
  rintro _ w5 ⟨rfl, hbl⟩
  have HB := hide (bthen (unhide HB) hbl)
  have HA := hide ((unhide HA).below hbl)
  clear hbl
  (try go_wp2_with fail)
  refine hKk.out _ _ ?_ (fun hHeld => ?_)
  · (try dsimp only)
    exact unhide HA
  clear hKk Kk
  (try simp only [List.setIfInBounds_toArray, List.set_cons_zero, List.set_cons_succ])
  refine rdA 5 63 (fun Kk hKk => ?_)
  go_simp
  refine (unhide HP _).mono ?_
  rintro _ w6 ⟨rfl, hbl⟩
  have HB := hide (bthen (unhide HB) hbl)
  have HA := hide ((unhide HA).below hbl)
  clear hbl
  (try go_wp2_with fail)
  refine hKk.out _ _ ?_ (fun hHeld => ?_)
  · (try dsimp only)
    exact unhide HA
  clear hKk Kk
  (try simp only [List.setIfInBounds_toArray, List.set_cons_zero, List.set_cons_succ])
  refine tkA 6 6 127 ?_
  refine wpAnyH_done (by kernel_rfl) ?_ _
  go_wp2
  go_ret
  exact ⟨rfl, unhide HB⟩
set_option maxRecDepth 100000 in
set_option maxHeartbeats 2000000 in
theorem next_floor_f {w x K1 X1 S1 V n h l : Int} {n1 a m o : Bool} (W : World) (HO : Ct 15 #[.int .i64 w, .int .u64 x] (.agg #[.bool n1, .int .i64 K1, .int .i64 X1, .int .u64 S1])) (HK : Ct 231 #[.agg #[.bool n1, .int .i64 K1, .int .i64 X1, .int .u64 S1]] (.bool true)) (HS : Ct 232 #[.agg #[.bool n1, .int .i64 K1, .int .i64 X1, .int .u64 S1]] (.tuple #[.int .u64 n, .agg #[.bool a, .bool m, .bool o]])) (HF : Ct 152 #[.bool n1, .agg #[.bool a, .bool m, .bool o]] (.bool false)) (HW : Ct 161 #[.int .u64 n] (.agg #[.int .u64 h, .int .u64 l])) (HP : Ct 160 #[.int .i64 w, .bool n1, .agg #[.int .u64 h, .int .u64 l], .int .i64 0, .bool false] (.int .u64 V)) :
    Calls Tryz.prog 150 #[.int .i64 w, .int .u64 x, .func (.func 152) #[] #[]] W fun r W' => r = .returned (.int .u64 V) ∧ Below W.heap.size W W' := by
  go_enter Tryz.func150, Tryz.ntmps150
  go_wp2_with fail
  refine (unhide HO _).mono ?_
  rintro _ w1 ⟨rfl, hb⟩
  have HB := hide (balloc hb (.cells #[.bool n1, .int .i64 K1, .int .i64 X1, .int .u64 S1] 37))
  have HA := hide (at4_new w1 (.bool n1) (.int .i64 K1) (.int .i64 X1) (.int .u64 S1) 37)
  clear hb
  obtain ⟨c0, c1, c2, c3⟩ := unhide HA
  go_wp2_with fail
  clear c0 c1 c2 c3
  refine (unhide HK _).mono ?_
  rintro _ w2 ⟨rfl, hb⟩
  have HB := hide (bthen (unhide HB) hb)
  have HA := hide ((unhide HA).below hb)
  clear hb
  obtain ⟨c0, c1, c2, c3⟩ := unhide HA
  go_wp2_with fail
  clear c0 c1 c2 c3
  refine (unhide HS _).mono ?_
  rintro _ w3 ⟨rfl, hb⟩
  have HB := hide (balloc (bthen (unhide HB) hb) (.cells #[.bool a, .bool m, .bool o] 132))
  have HA := hide (((unhide HA).below hb).below (below1 _ (.cells #[.bool a, .bool m, .bool o] 132)))
  clear hb
  obtain ⟨c0, c1, c2, c3⟩ := unhide HA
  go_wp2_with fail
  clear c0 c1 c2 c3
  refine (unhide HF _).mono ?_
  rintro _ w4 ⟨rfl, hb⟩
  have HB := hide (bthen (unhide HB) hb)
  have HA := hide ((unhide HA).below hb)
  clear hb
  go_wp2_with fail
  have HB := hide (unhide HB).drew
  have HA := hide ((unhide HA).below ((Below.refl _ _).drew))
  refine wp_region_held_drew (S := fun w' => (w'.cell? ⟨w1.heap.size, 0, none⟩ = some (.bool n1) ∧ w'.cell? ⟨w1.heap.size, 1, none⟩ = some (.int .i64 K1) ∧ w'.cell? ⟨w1.heap.size, 2, none⟩ = some (.int .i64 X1) ∧ w'.cell? ⟨w1.heap.size, 3, none⟩ = some (.int .u64 S1))) (by kernel_rfl) ?_ (fun hHeld => ?_)
  · (try dsimp only)
    exact unhide HA
  refine lst0 7 (by kernel_rfl) ?_
  refine tkA 0 31 1 ?_
  refine tkA 1 32 3 ?_
  refine tkA 2 33 7 ?_
  refine tkA 3 34 15 ?_
  refine rdA 4 31 (fun Kk hKk => ?_)
  go_simp
  refine (unhide HW _).mono ?_
  rintro _ w5 ⟨rfl, hbl⟩
  have HB := hide (bthen (unhide HB) hbl)
  have HA := hide ((unhide HA).below hbl)
  clear hbl
  (try go_wp2_with fail)
  refine hKk.out _ _ ?_ (fun hHeld => ?_)
  · (try dsimp only)
    exact unhide HA
  clear hKk Kk
  (try simp only [List.setIfInBounds_toArray, List.set_cons_zero, List.set_cons_succ])
  refine rdA 5 63 (fun Kk hKk => ?_)
  go_simp
  refine (unhide HP _).mono ?_
  rintro _ w6 ⟨rfl, hbl⟩
  have HB := hide (bthen (unhide HB) hbl)
  have HA := hide ((unhide HA).below hbl)
  clear hbl
  (try go_wp2_with fail)
  refine hKk.out _ _ ?_ (fun hHeld => ?_)
  · (try dsimp only)
    exact unhide HA
  clear hKk Kk
  (try simp only [List.setIfInBounds_toArray, List.set_cons_zero, List.set_cons_succ])
  refine tkA 6 6 127 ?_
  refine wpAnyH_done (by kernel_rfl) ?_ _
  go_wp2
  go_ret
  exact ⟨rfl, unhide HB⟩
set_option maxRecDepth 100000 in
set_option maxHeartbeats 2000000 in
theorem next_trunc_w {w x K1 X1 S1 V : Int} {n1 : Bool} (W : World) (HO : Ct 15 #[.int .i64 w, .int .u64 x] (.agg #[.bool n1, .int .i64 K1, .int .i64 X1, .int .u64 S1])) (HK : Ct 231 #[.agg #[.bool n1, .int .i64 K1, .int .i64 X1, .int .u64 S1]] (.bool false)) (HN : Ct 170 #[.int .i64 w, .agg #[.bool n1, .int .i64 K1, .int .i64 X1, .int .u64 S1]] (.int .u64 V)) :
    Calls Tryz.prog 150 #[.int .i64 w, .int .u64 x, .func (.func 153) #[] #[]] W fun r W' => r = .returned (.int .u64 V) ∧ Below W.heap.size W W' := by
  go_enter Tryz.func150, Tryz.ntmps150
  go_wp2_with fail
  refine (unhide HO _).mono ?_
  rintro _ w1 ⟨rfl, hb⟩
  have HB := hide (balloc hb (.cells #[.bool n1, .int .i64 K1, .int .i64 X1, .int .u64 S1] 37))
  have HA := hide (at4_new w1 (.bool n1) (.int .i64 K1) (.int .i64 X1) (.int .u64 S1) 37)
  clear hb
  obtain ⟨c0, c1, c2, c3⟩ := unhide HA
  go_wp2_with fail
  clear c0 c1 c2 c3
  refine (unhide HK _).mono ?_
  rintro _ w2 ⟨rfl, hb⟩
  have HB := hide (bthen (unhide HB) hb)
  have HA := hide ((unhide HA).below hb)
  clear hb
  obtain ⟨c0, c1, c2, c3⟩ := unhide HA
  go_wp2_with fail
  clear c0 c1 c2 c3
  refine (unhide HN _).mono ?_
  rintro _ w3 ⟨rfl, hb⟩
  have HB := hide (bthen (unhide HB) hb)
  clear hb
  go_wp2_with fail
  go_ret
  exact ⟨rfl, unhide HB⟩
set_option maxRecDepth 100000 in
set_option maxHeartbeats 2000000 in
theorem next_trunc_f {w x K1 X1 S1 V n h l : Int} {n1 a m o : Bool} (W : World) (HO : Ct 15 #[.int .i64 w, .int .u64 x] (.agg #[.bool n1, .int .i64 K1, .int .i64 X1, .int .u64 S1])) (HK : Ct 231 #[.agg #[.bool n1, .int .i64 K1, .int .i64 X1, .int .u64 S1]] (.bool true)) (HS : Ct 232 #[.agg #[.bool n1, .int .i64 K1, .int .i64 X1, .int .u64 S1]] (.tuple #[.int .u64 n, .agg #[.bool a, .bool m, .bool o]])) (HF : Ct 153 #[.bool n1, .agg #[.bool a, .bool m, .bool o]] (.bool false)) (HW : Ct 161 #[.int .u64 n] (.agg #[.int .u64 h, .int .u64 l])) (HP : Ct 160 #[.int .i64 w, .bool n1, .agg #[.int .u64 h, .int .u64 l], .int .i64 0, .bool false] (.int .u64 V)) :
    Calls Tryz.prog 150 #[.int .i64 w, .int .u64 x, .func (.func 153) #[] #[]] W fun r W' => r = .returned (.int .u64 V) ∧ Below W.heap.size W W' := by
  go_enter Tryz.func150, Tryz.ntmps150
  go_wp2_with fail
  refine (unhide HO _).mono ?_
  rintro _ w1 ⟨rfl, hb⟩
  have HB := hide (balloc hb (.cells #[.bool n1, .int .i64 K1, .int .i64 X1, .int .u64 S1] 37))
  have HA := hide (at4_new w1 (.bool n1) (.int .i64 K1) (.int .i64 X1) (.int .u64 S1) 37)
  clear hb
  obtain ⟨c0, c1, c2, c3⟩ := unhide HA
  go_wp2_with fail
  clear c0 c1 c2 c3
  refine (unhide HK _).mono ?_
  rintro _ w2 ⟨rfl, hb⟩
  have HB := hide (bthen (unhide HB) hb)
  have HA := hide ((unhide HA).below hb)
  clear hb
  obtain ⟨c0, c1, c2, c3⟩ := unhide HA
  go_wp2_with fail
  clear c0 c1 c2 c3
  refine (unhide HS _).mono ?_
  rintro _ w3 ⟨rfl, hb⟩
  have HB := hide (balloc (bthen (unhide HB) hb) (.cells #[.bool a, .bool m, .bool o] 132))
  have HA := hide (((unhide HA).below hb).below (below1 _ (.cells #[.bool a, .bool m, .bool o] 132)))
  clear hb
  obtain ⟨c0, c1, c2, c3⟩ := unhide HA
  go_wp2_with fail
  clear c0 c1 c2 c3
  refine (unhide HF _).mono ?_
  rintro _ w4 ⟨rfl, hb⟩
  have HB := hide (bthen (unhide HB) hb)
  have HA := hide ((unhide HA).below hb)
  clear hb
  go_wp2_with fail
  have HB := hide (unhide HB).drew
  have HA := hide ((unhide HA).below ((Below.refl _ _).drew))
  refine wp_region_held_drew (S := fun w' => (w'.cell? ⟨w1.heap.size, 0, none⟩ = some (.bool n1) ∧ w'.cell? ⟨w1.heap.size, 1, none⟩ = some (.int .i64 K1) ∧ w'.cell? ⟨w1.heap.size, 2, none⟩ = some (.int .i64 X1) ∧ w'.cell? ⟨w1.heap.size, 3, none⟩ = some (.int .u64 S1))) (by kernel_rfl) ?_ (fun hHeld => ?_)
  · (try dsimp only)
    exact unhide HA
  refine lst0 7 (by kernel_rfl) ?_
  refine tkA 0 31 1 ?_
  refine tkA 1 32 3 ?_
  refine tkA 2 33 7 ?_
  refine tkA 3 34 15 ?_
  refine rdA 4 31 (fun Kk hKk => ?_)
  go_simp
  refine (unhide HW _).mono ?_
  rintro _ w5 ⟨rfl, hbl⟩
  have HB := hide (bthen (unhide HB) hbl)
  have HA := hide ((unhide HA).below hbl)
  clear hbl
  (try go_wp2_with fail)
  refine hKk.out _ _ ?_ (fun hHeld => ?_)
  · (try dsimp only)
    exact unhide HA
  clear hKk Kk
  (try simp only [List.setIfInBounds_toArray, List.set_cons_zero, List.set_cons_succ])
  refine rdA 5 63 (fun Kk hKk => ?_)
  go_simp
  refine (unhide HP _).mono ?_
  rintro _ w6 ⟨rfl, hbl⟩
  have HB := hide (bthen (unhide HB) hbl)
  have HA := hide ((unhide HA).below hbl)
  clear hbl
  (try go_wp2_with fail)
  refine hKk.out _ _ ?_ (fun hHeld => ?_)
  · (try dsimp only)
    exact unhide HA
  clear hKk Kk
  (try simp only [List.setIfInBounds_toArray, List.set_cons_zero, List.set_cons_succ])
  refine tkA 6 6 127 ?_
  refine wpAnyH_done (by kernel_rfl) ?_ _
  go_wp2
  go_ret
  exact ⟨rfl, unhide HB⟩
set_option maxRecDepth 100000 in
set_option maxHeartbeats 2000000 in
theorem next_near_w {w x K1 X1 S1 V : Int} {n1 : Bool} (W : World) (HO : Ct 15 #[.int .i64 w, .int .u64 x] (.agg #[.bool n1, .int .i64 K1, .int .i64 X1, .int .u64 S1])) (HK : Ct 231 #[.agg #[.bool n1, .int .i64 K1, .int .i64 X1, .int .u64 S1]] (.bool false)) (HN : Ct 170 #[.int .i64 w, .agg #[.bool n1, .int .i64 K1, .int .i64 X1, .int .u64 S1]] (.int .u64 V)) :
    Calls Tryz.prog 150 #[.int .i64 w, .int .u64 x, .func (.func 154) #[] #[]] W fun r W' => r = .returned (.int .u64 V) ∧ Below W.heap.size W W' := by
  go_enter Tryz.func150, Tryz.ntmps150
  go_wp2_with fail
  refine (unhide HO _).mono ?_
  rintro _ w1 ⟨rfl, hb⟩
  have HB := hide (balloc hb (.cells #[.bool n1, .int .i64 K1, .int .i64 X1, .int .u64 S1] 37))
  have HA := hide (at4_new w1 (.bool n1) (.int .i64 K1) (.int .i64 X1) (.int .u64 S1) 37)
  clear hb
  obtain ⟨c0, c1, c2, c3⟩ := unhide HA
  go_wp2_with fail
  clear c0 c1 c2 c3
  refine (unhide HK _).mono ?_
  rintro _ w2 ⟨rfl, hb⟩
  have HB := hide (bthen (unhide HB) hb)
  have HA := hide ((unhide HA).below hb)
  clear hb
  obtain ⟨c0, c1, c2, c3⟩ := unhide HA
  go_wp2_with fail
  clear c0 c1 c2 c3
  refine (unhide HN _).mono ?_
  rintro _ w3 ⟨rfl, hb⟩
  have HB := hide (bthen (unhide HB) hb)
  clear hb
  go_wp2_with fail
  go_ret
  exact ⟨rfl, unhide HB⟩
set_option maxRecDepth 100000 in
set_option maxHeartbeats 2000000 in
theorem next_near_t {w x K1 X1 S1 V n h l : Int} {n1 a m o : Bool} (W : World) (HO : Ct 15 #[.int .i64 w, .int .u64 x] (.agg #[.bool n1, .int .i64 K1, .int .i64 X1, .int .u64 S1])) (HK : Ct 231 #[.agg #[.bool n1, .int .i64 K1, .int .i64 X1, .int .u64 S1]] (.bool true)) (HS : Ct 232 #[.agg #[.bool n1, .int .i64 K1, .int .i64 X1, .int .u64 S1]] (.tuple #[.int .u64 n, .agg #[.bool a, .bool m, .bool o]])) (HF : Ct 154 #[.bool n1, .agg #[.bool a, .bool m, .bool o]] (.bool true)) (kn : IntKind.u64.wrap (n + 1) = n + 1) (HW : Ct 161 #[.int .u64 (n + 1)] (.agg #[.int .u64 h, .int .u64 l])) (HP : Ct 160 #[.int .i64 w, .bool n1, .agg #[.int .u64 h, .int .u64 l], .int .i64 0, .bool false] (.int .u64 V)) :
    Calls Tryz.prog 150 #[.int .i64 w, .int .u64 x, .func (.func 154) #[] #[]] W fun r W' => r = .returned (.int .u64 V) ∧ Below W.heap.size W W' := by
  go_enter Tryz.func150, Tryz.ntmps150
  go_wp2_with fail
  refine (unhide HO _).mono ?_
  rintro _ w1 ⟨rfl, hb⟩
  have HB := hide (balloc hb (.cells #[.bool n1, .int .i64 K1, .int .i64 X1, .int .u64 S1] 37))
  have HA := hide (at4_new w1 (.bool n1) (.int .i64 K1) (.int .i64 X1) (.int .u64 S1) 37)
  clear hb
  obtain ⟨c0, c1, c2, c3⟩ := unhide HA
  go_wp2_with fail
  clear c0 c1 c2 c3
  refine (unhide HK _).mono ?_
  rintro _ w2 ⟨rfl, hb⟩
  have HB := hide (bthen (unhide HB) hb)
  have HA := hide ((unhide HA).below hb)
  clear hb
  obtain ⟨c0, c1, c2, c3⟩ := unhide HA
  go_wp2_with fail
  clear c0 c1 c2 c3
  refine (unhide HS _).mono ?_
  rintro _ w3 ⟨rfl, hb⟩
  have HB := hide (balloc (bthen (unhide HB) hb) (.cells #[.bool a, .bool m, .bool o] 132))
  have HA := hide (((unhide HA).below hb).below (below1 _ (.cells #[.bool a, .bool m, .bool o] 132)))
  clear hb
  obtain ⟨c0, c1, c2, c3⟩ := unhide HA
  go_wp2_with fail
  clear c0 c1 c2 c3
  refine (unhide HF _).mono ?_
  rintro _ w4 ⟨rfl, hb⟩
  have HB := hide (bthen (unhide HB) hb)
  have HA := hide ((unhide HA).below hb)
  clear hb
  go_wp2_with fail
  have HB := hide (unhide HB).drew
  have HA := hide ((unhide HA).below ((Below.refl _ _).drew))
  refine wp_region_held_drew (S := fun w' => (w'.cell? ⟨w1.heap.size, 0, none⟩ = some (.bool n1) ∧ w'.cell? ⟨w1.heap.size, 1, none⟩ = some (.int .i64 K1) ∧ w'.cell? ⟨w1.heap.size, 2, none⟩ = some (.int .i64 X1) ∧ w'.cell? ⟨w1.heap.size, 3, none⟩ = some (.int .u64 S1))) (by kernel_rfl) ?_ (fun hHeld => ?_)
  · (try dsimp only)
    exact unhide HA
  refine lst0 7 (by kernel_rfl) ?_
  refine tkA 0 31 1 ?_
  refine tkA 1 32 3 ?_
  refine tkA 2 33 7 ?_
  refine tkA 3 34 15 ?_
  refine rdA 4 31 (fun Kk hKk => ?_)
  go_simp
  refine (unhide HW _).mono ?_
  rintro _ w5 ⟨rfl, hbl⟩
  have HB := hide (bthen (unhide HB) hbl)
  have HA := hide ((unhide HA).below hbl)
  clear hbl
  (try go_wp2_with fail)
  refine hKk.out _ _ ?_ (fun hHeld => ?_)
  · (try dsimp only)
    exact unhide HA
  clear hKk Kk
  (try simp only [List.setIfInBounds_toArray, List.set_cons_zero, List.set_cons_succ])
  refine rdA 5 63 (fun Kk hKk => ?_)
  go_simp
  refine (unhide HP _).mono ?_
  rintro _ w6 ⟨rfl, hbl⟩
  have HB := hide (bthen (unhide HB) hbl)
  have HA := hide ((unhide HA).below hbl)
  clear hbl
  (try go_wp2_with fail)
  refine hKk.out _ _ ?_ (fun hHeld => ?_)
  · (try dsimp only)
    exact unhide HA
  clear hKk Kk
  (try simp only [List.setIfInBounds_toArray, List.set_cons_zero, List.set_cons_succ])
  refine tkA 6 6 127 ?_
  refine wpAnyH_done (by kernel_rfl) ?_ _
  go_wp2
  go_ret
  exact ⟨rfl, unhide HB⟩
set_option maxRecDepth 100000 in
set_option maxHeartbeats 2000000 in
theorem next_near_f {w x K1 X1 S1 V n h l : Int} {n1 a m o : Bool} (W : World) (HO : Ct 15 #[.int .i64 w, .int .u64 x] (.agg #[.bool n1, .int .i64 K1, .int .i64 X1, .int .u64 S1])) (HK : Ct 231 #[.agg #[.bool n1, .int .i64 K1, .int .i64 X1, .int .u64 S1]] (.bool true)) (HS : Ct 232 #[.agg #[.bool n1, .int .i64 K1, .int .i64 X1, .int .u64 S1]] (.tuple #[.int .u64 n, .agg #[.bool a, .bool m, .bool o]])) (HF : Ct 154 #[.bool n1, .agg #[.bool a, .bool m, .bool o]] (.bool false)) (HW : Ct 161 #[.int .u64 n] (.agg #[.int .u64 h, .int .u64 l])) (HP : Ct 160 #[.int .i64 w, .bool n1, .agg #[.int .u64 h, .int .u64 l], .int .i64 0, .bool false] (.int .u64 V)) :
    Calls Tryz.prog 150 #[.int .i64 w, .int .u64 x, .func (.func 154) #[] #[]] W fun r W' => r = .returned (.int .u64 V) ∧ Below W.heap.size W W' := by
  go_enter Tryz.func150, Tryz.ntmps150
  go_wp2_with fail
  refine (unhide HO _).mono ?_
  rintro _ w1 ⟨rfl, hb⟩
  have HB := hide (balloc hb (.cells #[.bool n1, .int .i64 K1, .int .i64 X1, .int .u64 S1] 37))
  have HA := hide (at4_new w1 (.bool n1) (.int .i64 K1) (.int .i64 X1) (.int .u64 S1) 37)
  clear hb
  obtain ⟨c0, c1, c2, c3⟩ := unhide HA
  go_wp2_with fail
  clear c0 c1 c2 c3
  refine (unhide HK _).mono ?_
  rintro _ w2 ⟨rfl, hb⟩
  have HB := hide (bthen (unhide HB) hb)
  have HA := hide ((unhide HA).below hb)
  clear hb
  obtain ⟨c0, c1, c2, c3⟩ := unhide HA
  go_wp2_with fail
  clear c0 c1 c2 c3
  refine (unhide HS _).mono ?_
  rintro _ w3 ⟨rfl, hb⟩
  have HB := hide (balloc (bthen (unhide HB) hb) (.cells #[.bool a, .bool m, .bool o] 132))
  have HA := hide (((unhide HA).below hb).below (below1 _ (.cells #[.bool a, .bool m, .bool o] 132)))
  clear hb
  obtain ⟨c0, c1, c2, c3⟩ := unhide HA
  go_wp2_with fail
  clear c0 c1 c2 c3
  refine (unhide HF _).mono ?_
  rintro _ w4 ⟨rfl, hb⟩
  have HB := hide (bthen (unhide HB) hb)
  have HA := hide ((unhide HA).below hb)
  clear hb
  go_wp2_with fail
  have HB := hide (unhide HB).drew
  have HA := hide ((unhide HA).below ((Below.refl _ _).drew))
  refine wp_region_held_drew (S := fun w' => (w'.cell? ⟨w1.heap.size, 0, none⟩ = some (.bool n1) ∧ w'.cell? ⟨w1.heap.size, 1, none⟩ = some (.int .i64 K1) ∧ w'.cell? ⟨w1.heap.size, 2, none⟩ = some (.int .i64 X1) ∧ w'.cell? ⟨w1.heap.size, 3, none⟩ = some (.int .u64 S1))) (by kernel_rfl) ?_ (fun hHeld => ?_)
  · (try dsimp only)
    exact unhide HA
  refine lst0 7 (by kernel_rfl) ?_
  refine tkA 0 31 1 ?_
  refine tkA 1 32 3 ?_
  refine tkA 2 33 7 ?_
  refine tkA 3 34 15 ?_
  refine rdA 4 31 (fun Kk hKk => ?_)
  go_simp
  refine (unhide HW _).mono ?_
  rintro _ w5 ⟨rfl, hbl⟩
  have HB := hide (bthen (unhide HB) hbl)
  have HA := hide ((unhide HA).below hbl)
  clear hbl
  (try go_wp2_with fail)
  refine hKk.out _ _ ?_ (fun hHeld => ?_)
  · (try dsimp only)
    exact unhide HA
  clear hKk Kk
  (try simp only [List.setIfInBounds_toArray, List.set_cons_zero, List.set_cons_succ])
  refine rdA 5 63 (fun Kk hKk => ?_)
  go_simp
  refine (unhide HP _).mono ?_
  rintro _ w6 ⟨rfl, hbl⟩
  have HB := hide (bthen (unhide HB) hbl)
  have HA := hide ((unhide HA).below hbl)
  clear hbl
  (try go_wp2_with fail)
  refine hKk.out _ _ ?_ (fun hHeld => ?_)
  · (try dsimp only)
    exact unhide HA
  clear hKk Kk
  (try simp only [List.setIfInBounds_toArray, List.set_cons_zero, List.set_cons_succ])
  refine tkA 6 6 127 ?_
  refine wpAnyH_done (by kernel_rfl) ?_ _
  go_wp2
  go_ret
  exact ⟨rfl, unhide HB⟩
set_option maxRecDepth 100000 in
set_option maxHeartbeats 2000000 in
theorem ceil_l {w x V : Int} (W : World) (H : Ct 150 #[.int .i64 w, .int .u64 x, .func (.func 151) #[] #[]] (.int .u64 V)) :
    Calls Tryz.prog 80 #[.int .i64 w, .int .u64 x] W fun r W' => r = .returned (.int .u64 V) ∧ Below W.heap.size W W' := by
  go_enter Tryz.func80, Tryz.ntmps80
  go_wp2_with fail
  refine (unhide H _).mono ?_
  rintro _ w1 ⟨rfl, hb⟩
  have HB := hide hb
  clear hb
  go_wp2_with fail
  go_ret
  exact ⟨rfl, unhide HB⟩
set_option maxRecDepth 100000 in
set_option maxHeartbeats 2000000 in
theorem floor_l {w x V : Int} (W : World) (H : Ct 150 #[.int .i64 w, .int .u64 x, .func (.func 152) #[] #[]] (.int .u64 V)) :
    Calls Tryz.prog 81 #[.int .i64 w, .int .u64 x] W fun r W' => r = .returned (.int .u64 V) ∧ Below W.heap.size W W' := by
  go_enter Tryz.func81, Tryz.ntmps81
  go_wp2_with fail
  refine (unhide H _).mono ?_
  rintro _ w1 ⟨rfl, hb⟩
  have HB := hide hb
  clear hb
  go_wp2_with fail
  go_ret
  exact ⟨rfl, unhide HB⟩
set_option maxRecDepth 100000 in
set_option maxHeartbeats 2000000 in
theorem trunc_l {w x V : Int} (W : World) (H : Ct 150 #[.int .i64 w, .int .u64 x, .func (.func 153) #[] #[]] (.int .u64 V)) :
    Calls Tryz.prog 82 #[.int .i64 w, .int .u64 x] W fun r W' => r = .returned (.int .u64 V) ∧ Below W.heap.size W W' := by
  go_enter Tryz.func82, Tryz.ntmps82
  go_wp2_with fail
  refine (unhide H _).mono ?_
  rintro _ w1 ⟨rfl, hb⟩
  have HB := hide hb
  clear hb
  go_wp2_with fail
  go_ret
  exact ⟨rfl, unhide HB⟩
set_option maxRecDepth 100000 in
set_option maxHeartbeats 2000000 in
theorem near_l {w x V : Int} (W : World) (H : Ct 150 #[.int .i64 w, .int .u64 x, .func (.func 154) #[] #[]] (.int .u64 V)) :
    Calls Tryz.prog 83 #[.int .i64 w, .int .u64 x] W fun r W' => r = .returned (.int .u64 V) ∧ Below W.heap.size W W' := by
  go_enter Tryz.func83, Tryz.ntmps83
  go_wp2_with fail
  refine (unhide H _).mono ?_
  rintro _ w1 ⟨rfl, hb⟩
  have HB := hide hb
  clear hb
  go_wp2_with fail
  go_ret
  exact ⟨rfl, unhide HB⟩
end Go.Proofs.YtpbgpdmffejdgaaGreatDoor
