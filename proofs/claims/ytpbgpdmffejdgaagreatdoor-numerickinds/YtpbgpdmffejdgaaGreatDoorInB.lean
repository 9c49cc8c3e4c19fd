/- Walks of package ints: reckon, by the functions that it is handed. -/
import Derived.Test.YtpbgpdmffejdgaaGreatDoorTk
namespace Go.Proofs.YtpbgpdmffejdgaaGreatDoor
open Go.RowKit

set_option maxHeartbeats 4000000 in
set_option maxRecDepth 100000 in
theorem sum32_r {a b A B v : Int} (hA : IntKind.u32.wrap a = A) (hB : IntKind.u32.wrap b = B) (HF : Ct 225 #[.int .u32 A, .int .u32 B] (.int .u64 v)) : Ct 212 #[.int .i64 32, .int .u64 a, .int .u64 b, .func (.func 225) #[] #[], .func (.func 226) #[] #[]] (.int .u64 v) := by
  refine hide (fun W => ?_)
  have HB := hide (Below.refl W.heap.size W)
  go_enter Tryz.func212, Tryz.ntmps212
  go_wp2_with fail
  refine (unhide HF _).mono ?_
  rintro _ w1 ⟨rfl, hb⟩
  have HB := hide (bthen (unhide HB) hb)
  clear hb
  go_wp2_with fail
  go_ret
  exact ⟨rfl, unhide HB⟩
set_option maxHeartbeats 4000000 in
set_option maxRecDepth 100000 in
theorem sum64_r {a b v : Int} (HF : Ct 226 #[.int .u64 a, .int .u64 b] (.int .u64 v)) : Ct 212 #[.int .i64 64, .int .u64 a, .int .u64 b, .func (.func 225) #[] #[], .func (.func 226) #[] #[]] (.int .u64 v) := by
  refine hide (fun W => ?_)
  have HB := hide (Below.refl W.heap.size W)
  go_enter Tryz.func212, Tryz.ntmps212
  go_wp2_with fail
  refine (unhide HF _).mono ?_
  rintro _ w1 ⟨rfl, hb⟩
  have HB := hide (bthen (unhide HB) hb)
  clear hb
  go_wp2_with fail
  go_ret
  exact ⟨rfl, unhide HB⟩
set_option maxHeartbeats 4000000 in
set_option maxRecDepth 100000 in
theorem sumno_r {w a b : Int} (h1 : ¬ w = 32) (h2 : ¬ w = 64) : Ct 212 #[.int .i64 w, .int .u64 a, .int .u64 b, .func (.func 225) #[] #[], .func (.func 226) #[] #[]] (.int .u64 0) := by
  refine hide (fun W => ?_)
  have HB := hide (Below.refl W.heap.size W)
  go_enter Tryz.func212, Tryz.ntmps212
  go_wp2_with fail
  go_ret
  exact ⟨rfl, unhide HB⟩
set_option maxHeartbeats 4000000 in
set_option maxRecDepth 100000 in
theorem dif32_r {a b A B v : Int} (hA : IntKind.u32.wrap a = A) (hB : IntKind.u32.wrap b = B) (HF : Ct 227 #[.int .u32 A, .int .u32 B] (.int .u64 v)) : Ct 212 #[.int .i64 32, .int .u64 a, .int .u64 b, .func (.func 227) #[] #[], .func (.func 228) #[] #[]] (.int .u64 v) := by
  refine hide (fun W => ?_)
  have HB := hide (Below.refl W.heap.size W)
  go_enter Tryz.func212, Tryz.ntmps212
  go_wp2_with fail
  refine (unhide HF _).mono ?_
  rintro _ w1 ⟨rfl, hb⟩
  have HB := hide (bthen (unhide HB) hb)
  clear hb
  go_wp2_with fail
  go_ret
  exact ⟨rfl, unhide HB⟩
set_option maxHeartbeats 4000000 in
set_option maxRecDepth 100000 in
theorem dif64_r {a b v : Int} (HF : Ct 228 #[.int .u64 a, .int .u64 b] (.int .u64 v)) : Ct 212 #[.int .i64 64, .int .u64 a, .int .u64 b, .func (.func 227) #[] #[], .func (.func 228) #[] #[]] (.int .u64 v) := by
  refine hide (fun W => ?_)
  have HB := hide (Below.refl W.heap.size W)
  go_enter Tryz.func212, Tryz.ntmps212
  go_wp2_with fail
  refine (unhide HF _).mono ?_
  rintro _ w1 ⟨rfl, hb⟩
  have HB := hide (bthen (unhide HB) hb)
  clear hb
  go_wp2_with fail
  go_ret
  exact ⟨rfl, unhide HB⟩
set_option maxHeartbeats 4000000 in
set_option maxRecDepth 100000 in
theorem difno_r {w a b : Int} (h1 : ¬ w = 32) (h2 : ¬ w = 64) : Ct 212 #[.int .i64 w, .int .u64 a, .int .u64 b, .func (.func 227) #[] #[], .func (.func 228) #[] #[]] (.int .u64 0) := by
  refine hide (fun W => ?_)
  have HB := hide (Below.refl W.heap.size W)
  go_enter Tryz.func212, Tryz.ntmps212
  go_wp2_with fail
  go_ret
  exact ⟨rfl, unhide HB⟩
set_option maxHeartbeats 4000000 in
set_option maxRecDepth 100000 in
theorem pro32_r {a b A B v : Int} (hA : IntKind.u32.wrap a = A) (hB : IntKind.u32.wrap b = B) (HF : Ct 229 #[.int .u32 A, .int .u32 B] (.int .u64 v)) : Ct 212 #[.int .i64 32, .int .u64 a, .int .u64 b, .func (.func 229) #[] #[], .func (.func 230) #[] #[]] (.int .u64 v) := by
  refine hide (fun W => ?_)
  have HB := hide (Below.refl W.heap.size W)
  go_enter Tryz.func212, Tryz.ntmps212
  go_wp2_with fail
  refine (unhide HF _).mono ?_
  rintro _ w1 ⟨rfl, hb⟩
  have HB := hide (bthen (unhide HB) hb)
  clear hb
  go_wp2_with fail
  go_ret
  exact ⟨rfl, unhide HB⟩
set_option maxHeartbeats 4000000 in
set_option maxRecDepth 100000 in
theorem pro64_r {a b v : Int} (HF : Ct 230 #[.int .u64 a, .int .u64 b] (.int .u64 v)) : Ct 212 #[.int .i64 64, .int .u64 a, .int .u64 b, .func (.func 229) #[] #[], .func (.func 230) #[] #[]] (.int .u64 v) := by
  refine hide (fun W => ?_)
  have HB := hide (Below.refl W.heap.size W)
  go_enter Tryz.func212, Tryz.ntmps212
  go_wp2_with fail
  refine (unhide HF _).mono ?_
  rintro _ w1 ⟨rfl, hb⟩
  have HB := hide (bthen (unhide HB) hb)
  clear hb
  go_wp2_with fail
  go_ret
  exact ⟨rfl, unhide HB⟩
set_option maxHeartbeats 4000000 in
set_option maxRecDepth 100000 in
theorem prono_r {w a b : Int} (h1 : ¬ w = 32) (h2 : ¬ w = 64) : Ct 212 #[.int .i64 w, .int .u64 a, .int .u64 b, .func (.func 229) #[] #[], .func (.func 230) #[] #[]] (.int .u64 0) := by
  refine hide (fun W => ?_)
  have HB := hide (Below.refl W.heap.size W)
  go_enter Tryz.func212, Tryz.ntmps212
  go_wp2_with fail
  go_ret
  exact ⟨rfl, unhide HB⟩
set_option maxHeartbeats 4000000 in
set_option maxRecDepth 100000 in
theorem lef32_r {a b A B v : Int} (hA : IntKind.u32.wrap a = A) (hB : IntKind.u32.wrap b = B) (HF : Ct 214 #[.int .u32 A, .int .u32 B] (.int .u64 v)) : Ct 212 #[.int .i64 32, .int .u64 a, .int .u64 b, .func (.func 214) #[] #[], .func (.func 215) #[] #[]] (.int .u64 v) := by
  refine hide (fun W => ?_)
  have HB := hide (Below.refl W.heap.size W)
  go_enter Tryz.func212, Tryz.ntmps212
  go_wp2_with fail
  refine (unhide HF _).mono ?_
  rintro _ w1 ⟨rfl, hb⟩
  have HB := hide (bthen (unhide HB) hb)
  clear hb
  go_wp2_with fail
  go_ret
  exact ⟨rfl, unhide HB⟩
set_option maxHeartbeats 4000000 in
set_option maxRecDepth 100000 in
theorem lef64_r {a b v : Int} (HF : Ct 215 #[.int .u64 a, .int .u64 b] (.int .u64 v)) : Ct 212 #[.int .i64 64, .int .u64 a, .int .u64 b, .func (.func 214) #[] #[], .func (.func 215) #[] #[]] (.int .u64 v) := by
  refine hide (fun W => ?_)
  have HB := hide (Below.refl W.heap.size W)
  go_enter Tryz.func212, Tryz.ntmps212
  go_wp2_with fail
  refine (unhide HF _).mono ?_
  rintro _ w1 ⟨rfl, hb⟩
  have HB := hide (bthen (unhide HB) hb)
  clear hb
  go_wp2_with fail
  go_ret
  exact ⟨rfl, unhide HB⟩
set_option maxHeartbeats 4000000 in
set_option maxRecDepth 100000 in
theorem lefno_r {w a b : Int} (h1 : ¬ w = 32) (h2 : ¬ w = 64) : Ct 212 #[.int .i64 w, .int .u64 a, .int .u64 b, .func (.func 214) #[] #[], .func (.func 215) #[] #[]] (.int .u64 0) := by
  refine hide (fun W => ?_)
  have HB := hide (Below.refl W.heap.size W)
  go_enter Tryz.func212, Tryz.ntmps212
  go_wp2_with fail
  go_ret
  exact ⟨rfl, unhide HB⟩
set_option maxHeartbeats 4000000 in
set_option maxRecDepth 100000 in
theorem rig32_r {a b A B v : Int} (hA : IntKind.u32.wrap a = A) (hB : IntKind.u32.wrap b = B) (HF : Ct 219 #[.int .u32 A, .int .u32 B] (.int .u64 v)) : Ct 212 #[.int .i64 32, .int .u64 a, .int .u64 b, .func (.func 219) #[] #[], .func (.func 220) #[] #[]] (.int .u64 v) := by
  refine hide (fun W => ?_)
  have HB := hide (Below.refl W.heap.size W)
  go_enter Tryz.func212, Tryz.ntmps212
  go_wp2_with fail
  refine (unhide HF _).mono ?_
  rintro _ w1 ⟨rfl, hb⟩
  have HB := hide (bthen (unhide HB) hb)
  clear hb
  go_wp2_with fail
  go_ret
  exact ⟨rfl, unhide HB⟩
set_option maxHeartbeats 4000000 in
set_option maxRecDepth 100000 in
theorem rig64_r {a b v : Int} (HF : Ct 220 #[.int .u64 a, .int .u64 b] (.int .u64 v)) : Ct 212 #[.int .i64 64, .int .u64 a, .int .u64 b, .func (.func 219) #[] #[], .func (.func 220) #[] #[]] (.int .u64 v) := by
  refine hide (fun W => ?_)
  have HB := hide (Below.refl W.heap.size W)
  go_enter Tryz.func212, Tryz.ntmps212
  go_wp2_with fail
  refine (unhide HF _).mono ?_
  rintro _ w1 ⟨rfl, hb⟩
  have HB := hide (bthen (unhide HB) hb)
  clear hb
  go_wp2_with fail
  go_ret
  exact ⟨rfl, unhide HB⟩
set_option maxHeartbeats 4000000 in
set_option maxRecDepth 100000 in
theorem rigno_r {w a b : Int} (h1 : ¬ w = 32) (h2 : ¬ w = 64) : Ct 212 #[.int .i64 w, .int .u64 a, .int .u64 b, .func (.func 219) #[] #[], .func (.func 220) #[] #[]] (.int .u64 0) := by
  refine hide (fun W => ?_)
  have HB := hide (Below.refl W.heap.size W)
  go_enter Tryz.func212, Tryz.ntmps212
  go_wp2_with fail
  go_ret
  exact ⟨rfl, unhide HB⟩
set_option maxHeartbeats 4000000 in
set_option maxRecDepth 100000 in
theorem sar32_r {a b A B v : Int} (hA : IntKind.i32.wrap a = A) (hB : IntKind.i32.wrap b = B) (HF : Ct 217 #[.int .i32 A, .int .i32 B] (.int .u64 v)) : Ct 216 #[.int .i64 32, .int .u64 a, .int .u64 b, .func (.func 217) #[] #[], .func (.func 218) #[] #[]] (.int .u64 v) := by
  refine hide (fun W => ?_)
  have HB := hide (Below.refl W.heap.size W)
  go_enter Tryz.func216, Tryz.ntmps216
  go_wp2_with fail
  refine (unhide HF _).mono ?_
  rintro _ w1 ⟨rfl, hb⟩
  have HB := hide (bthen (unhide HB) hb)
  clear hb
  go_wp2_with fail
  go_ret
  exact ⟨rfl, unhide HB⟩
set_option maxHeartbeats 4000000 in
set_option maxRecDepth 100000 in
theorem sar64_r {a b A B v : Int} (hA : IntKind.i64.wrap a = A) (hB : IntKind.i64.wrap b = B) (HF : Ct 218 #[.int .i64 A, .int .i64 B] (.int .u64 v)) : Ct 216 #[.int .i64 64, .int .u64 a, .int .u64 b, .func (.func 217) #[] #[], .func (.func 218) #[] #[]] (.int .u64 v) := by
  refine hide (fun W => ?_)
  have HB := hide (Below.refl W.heap.size W)
  go_enter Tryz.func216, Tryz.ntmps216
  go_wp2_with fail
  refine (unhide HF _).mono ?_
  rintro _ w1 ⟨rfl, hb⟩
  have HB := hide (bthen (unhide HB) hb)
  clear hb
  go_wp2_with fail
  go_ret
  exact ⟨rfl, unhide HB⟩
set_option maxHeartbeats 4000000 in
set_option maxRecDepth 100000 in
theorem sarno_r {w a b : Int} (h1 : ¬ w = 32) (h2 : ¬ w = 64) : Ct 216 #[.int .i64 w, .int .u64 a, .int .u64 b, .func (.func 217) #[] #[], .func (.func 218) #[] #[]] (.int .u64 0) := by
  refine hide (fun W => ?_)
  have HB := hide (Below.refl W.heap.size W)
  go_enter Tryz.func216, Tryz.ntmps216
  go_wp2_with fail
  go_ret
  exact ⟨rfl, unhide HB⟩
set_option maxHeartbeats 4000000 in
set_option maxRecDepth 100000 in
theorem ltu32_r {a b A B : Int} {v : Bool} (hA : IntKind.u32.wrap a = A) (hB : IntKind.u32.wrap b = B) (HF : Ct 127 #[.int .u32 A, .int .u32 B] (.bool v)) : Ct 126 #[.int .i64 32, .int .u64 a, .int .u64 b, .func (.func 127) #[] #[], .func (.func 128) #[] #[]] (.bool v) := by
  refine hide (fun W => ?_)
  have HB := hide (Below.refl W.heap.size W)
  go_enter Tryz.func126, Tryz.ntmps126
  go_wp2_with fail
  refine (unhide HF _).mono ?_
  rintro _ w1 ⟨rfl, hb⟩
  have HB := hide (bthen (unhide HB) hb)
  clear hb
  go_wp2_with fail
  go_ret
  exact ⟨rfl, unhide HB⟩
set_option maxHeartbeats 4000000 in
set_option maxRecDepth 100000 in
theorem ltu64_r {a b : Int} {v : Bool} (HF : Ct 128 #[.int .u64 a, .int .u64 b] (.bool v)) : Ct 126 #[.int .i64 64, .int .u64 a, .int .u64 b, .func (.func 127) #[] #[], .func (.func 128) #[] #[]] (.bool v) := by
  refine hide (fun W => ?_)
  have HB := hide (Below.refl W.heap.size W)
  go_enter Tryz.func126, Tryz.ntmps126
  go_wp2_with fail
  refine (unhide HF _).mono ?_
  rintro _ w1 ⟨rfl, hb⟩
  have HB := hide (bthen (unhide HB) hb)
  clear hb
  go_wp2_with fail
  go_ret
  exact ⟨rfl, unhide HB⟩
set_option maxHeartbeats 4000000 in
set_option maxRecDepth 100000 in
theorem ltuno_r {w a b : Int} (h1 : ¬ w = 32) (h2 : ¬ w = 64) : Ct 126 #[.int .i64 w, .int .u64 a, .int .u64 b, .func (.func 127) #[] #[], .func (.func 128) #[] #[]] (.bool false) := by
  refine hide (fun W => ?_)
  have HB := hide (Below.refl W.heap.size W)
  go_enter Tryz.func126, Tryz.ntmps126
  go_wp2_with fail
  go_ret
  exact ⟨rfl, unhide HB⟩
set_option maxHeartbeats 4000000 in
set_option maxRecDepth 100000 in
theorem divu32_r {a b A B q r t : Int} (hA : IntKind.u32.wrap a = A) (hB : IntKind.u32.wrap b = B) (HF : Ct 210 #[.int .u32 A, .int .u32 B] (.agg #[.int .u64 q, .int .u64 r, .int .i64 t])) : Ct 209 #[.int .i64 32, .int .u64 a, .int .u64 b, .func (.func 210) #[] #[], .func (.func 211) #[] #[]] (.agg #[.int .u64 q, .int .u64 r, .int .i64 t]) := by
  refine hide (fun W => ?_)
  go_enter Tryz.func209, Tryz.ntmps209
  go_wp2_with fail
  have HB := hide (below1 W (.cells #[.int .u64 0, .int .u64 0, .int .i64 0] 127))
  have HR : Hid (Room W.heap.size 3 (W.alloc (.cells #[.int .u64 0, .int .u64 0, .int .i64 0] 127))) := by
    intro o ho
    match o, ho with
    | 0, _ | 1, _ | 2, _ => simp [go_sem]
  refine (unhide HF _).mono ?_
  rintro _ w1 ⟨rfl, hb⟩
  have HB := hide (bthen (unhide HB) hb)
  have HR := hide ((unhide HR).below hb)
  clear hb
  obtain ⟨⟨v0, c0⟩, f0⟩ := (unhide HR) 0 (by omega)
  obtain ⟨⟨v1, c1⟩, f1⟩ := (unhide HR) 1 (by omega)
  obtain ⟨⟨v2, c2⟩, f2⟩ := (unhide HR) 2 (by omega)
  have zy := lt_of_cell c0
  go_wp2
  exact bodyPost_ret (v := .agg #[.int .u64 q, .int .u64 r, .int .i64 t]) (by simp (maxDischargeDepth := 8) [results, Tryz.results209, go_sem, c0, c1, c2]) rfl ⟨rfl, bset (bset (bset (unhide HB) _ (Nat.le_refl _) _ _) _ (Nat.le_refl _) _ _) _ (Nat.le_refl _) _ _⟩
set_option maxHeartbeats 4000000 in
set_option maxRecDepth 100000 in
theorem divu64_r {a b q r t : Int} (HF : Ct 211 #[.int .u64 a, .int .u64 b] (.agg #[.int .u64 q, .int .u64 r, .int .i64 t])) : Ct 209 #[.int .i64 64, .int .u64 a, .int .u64 b, .func (.func 210) #[] #[], .func (.func 211) #[] #[]] (.agg #[.int .u64 q, .int .u64 r, .int .i64 t]) := by
  refine hide (fun W => ?_)
  go_enter Tryz.func209, Tryz.ntmps209
  go_wp2_with fail
  have HB := hide (below1 W (.cells #[.int .u64 0, .int .u64 0, .int .i64 0] 127))
  have HR : Hid (Room W.heap.size 3 (W.alloc (.cells #[.int .u64 0, .int .u64 0, .int .i64 0] 127))) := by
    intro o ho
    match o, ho with
    | 0, _ | 1, _ | 2, _ => simp [go_sem]
  refine (unhide HF _).mono ?_
  rintro _ w1 ⟨rfl, hb⟩
  have HB := hide (bthen (unhide HB) hb)
  have HR := hide ((unhide HR).below hb)
  clear hb
  obtain ⟨⟨v0, c0⟩, f0⟩ := (unhide HR) 0 (by omega)
  obtain ⟨⟨v1, c1⟩, f1⟩ := (unhide HR) 1 (by omega)
  obtain ⟨⟨v2, c2⟩, f2⟩ := (unhide HR) 2 (by omega)
  have zy := lt_of_cell c0
  go_wp2
  exact bodyPost_ret (v := .agg #[.int .u64 q, .int .u64 r, .int .i64 t]) (by simp (maxDischargeDepth := 8) [results, Tryz.results209, go_sem, c0, c1, c2]) rfl ⟨rfl, bset (bset (bset (unhide HB) _ (Nat.le_refl _) _ _) _ (Nat.le_refl _) _ _) _ (Nat.le_refl _) _ _⟩
set_option maxHeartbeats 4000000 in
set_option maxRecDepth 100000 in
theorem divuno_r {w a b : Int} (h1 : ¬ w = 32) (h2 : ¬ w = 64) : Ct 209 #[.int .i64 w, .int .u64 a, .int .u64 b, .func (.func 210) #[] #[], .func (.func 211) #[] #[]] (.agg #[.int .u64 0, .int .u64 0, .int .i64 0]) := by
  refine hide (fun W => ?_)
  go_enter Tryz.func209, Tryz.ntmps209
  go_wp2_with fail
  exact bodyPost_ret (v := .agg #[.int .u64 0, .int .u64 0, .int .i64 0]) (by simp [results, Tryz.results209, go_sem]) rfl ⟨rfl, below2 _ _ _⟩
set_option maxHeartbeats 4000000 in
set_option maxRecDepth 100000 in
theorem divs32_r {a b A B q r t : Int} (hA : IntKind.i32.wrap a = A) (hB : IntKind.i32.wrap b = B) (HF : Ct 207 #[.int .i32 A, .int .i32 B] (.agg #[.int .u64 q, .int .u64 r, .int .i64 t])) : Ct 206 #[.int .i64 32, .int .u64 a, .int .u64 b, .func (.func 207) #[] #[], .func (.func 208) #[] #[]] (.agg #[.int .u64 q, .int .u64 r, .int .i64 t]) := by
  refine hide (fun W => ?_)
  go_enter Tryz.func206, Tryz.ntmps206
  go_wp2_with fail
  have HB := hide (below1 W (.cells #[.int .u64 0, .int .u64 0, .int .i64 0] 127))
  have HR : Hid (Room W.heap.size 3 (W.alloc (.cells #[.int .u64 0, .int .u64 0, .int .i64 0] 127))) := by
    intro o ho
    match o, ho with
    | 0, _ | 1, _ | 2, _ => simp [go_sem]
  refine (unhide HF _).mono ?_
  rintro _ w1 ⟨rfl, hb⟩
  have HB := hide (bthen (unhide HB) hb)
  have HR := hide ((unhide HR).below hb)
  clear hb
  obtain ⟨⟨v0, c0⟩, f0⟩ := (unhide HR) 0 (by omega)
  obtain ⟨⟨v1, c1⟩, f1⟩ := (unhide HR) 1 (by omega)
  obtain ⟨⟨v2, c2⟩, f2⟩ := (unhide HR) 2 (by omega)
  have zy := lt_of_cell c0
  go_wp2
  exact bodyPost_ret (v := .agg #[.int .u64 q, .int .u64 r, .int .i64 t]) (by simp (maxDischargeDepth := 8) [results, Tryz.results206, go_sem, c0, c1, c2]) rfl ⟨rfl, bset (bset (bset (unhide HB) _ (Nat.le_refl _) _ _) _ (Nat.le_refl _) _ _) _ (Nat.le_refl _) _ _⟩
set_option maxHeartbeats 4000000 in
set_option maxRecDepth 100000 in
theorem divs64_r {a b A B q r t : Int} (hA : IntKind.i64.wrap a = A) (hB : IntKind.i64.wrap b = B) (HF : Ct 208 #[.int .i64 A, .int .i64 B] (.agg #[.int .u64 q, .int .u64 r, .int .i64 t])) : Ct 206 #[.int .i64 64, .int .u64 a, .int .u64 b, .func (.func 207) #[] #[], .func (.func 208) #[] #[]] (.agg #[.int .u64 q, .int .u64 r, .int .i64 t]) := by
  refine hide (fun W => ?_)
  go_enter Tryz.func206, Tryz.ntmps206
  go_wp2_with fail
  have HB := hide (below1 W (.cells #[.int .u64 0, .int .u64 0, .int .i64 0] 127))
  have HR : Hid (Room W.heap.size 3 (W.alloc (.cells #[.int .u64 0, .int .u64 0, .int .i64 0] 127))) := by
    intro o ho
    match o, ho with
    | 0, _ | 1, _ | 2, _ => simp [go_sem]
  refine (unhide HF _).mono ?_
  rintro _ w1 ⟨rfl, hb⟩
  have HB := hide (bthen (unhide HB) hb)
  have HR := hide ((unhide HR).below hb)
  clear hb
  obtain ⟨⟨v0, c0⟩, f0⟩ := (unhide HR) 0 (by omega)
  obtain ⟨⟨v1, c1⟩, f1⟩ := (unhide HR) 1 (by omega)
  obtain ⟨⟨v2, c2⟩, f2⟩ := (unhide HR) 2 (by omega)
  have zy := lt_of_cell c0
  go_wp2
  exact bodyPost_ret (v := .agg #[.int .u64 q, .int .u64 r, .int .i64 t]) (by simp (maxDischargeDepth := 8) [results, Tryz.results206, go_sem, c0, c1, c2]) rfl ⟨rfl, bset (bset (bset (unhide HB) _ (Nat.le_refl _) _ _) _ (Nat.le_refl _) _ _) _ (Nat.le_refl _) _ _⟩
set_option maxHeartbeats 4000000 in
set_option maxRecDepth 100000 in
theorem divsno_r {w a b : Int} (h1 : ¬ w = 32) (h2 : ¬ w = 64) : Ct 206 #[.int .i64 w, .int .u64 a, .int .u64 b, .func (.func 207) #[] #[], .func (.func 208) #[] #[]] (.agg #[.int .u64 0, .int .u64 0, .int .i64 0]) := by
  refine hide (fun W => ?_)
  go_enter Tryz.func206, Tryz.ntmps206
  go_wp2_with fail
  exact bodyPost_ret (v := .agg #[.int .u64 0, .int .u64 0, .int .i64 0]) (by simp [results, Tryz.results206, go_sem]) rfl ⟨rfl, below2 _ _ _⟩
set_option maxHeartbeats 4000000 in
set_option maxRecDepth 100000 in
theorem lts32_r {a b A B : Int} {v : Bool} (hA : IntKind.i32.wrap a = A) (hB : IntKind.i32.wrap b = B) (HF : Ct 124 #[.int .i32 A, .int .i32 B] (.bool v)) : Ct 123 #[.int .i64 32, .int .u64 a, .int .u64 b, .func (.func 124) #[] #[], .func (.func 125) #[] #[]] (.bool v) := by
  refine hide (fun W => ?_)
  have HB := hide (Below.refl W.heap.size W)
  go_enter Tryz.func123, Tryz.ntmps123
  go_wp2_with fail
  refine (unhide HF _).mono ?_
  rintro _ w1 ⟨rfl, hb⟩
  have HB := hide (bthen (unhide HB) hb)
  clear hb
  go_wp2_with fail
  go_ret
  exact ⟨rfl, unhide HB⟩
set_option maxHeartbeats 4000000 in
set_option maxRecDepth 100000 in
theorem lts64_r {a b A B : Int} {v : Bool} (hA : IntKind.i64.wrap a = A) (hB : IntKind.i64.wrap b = B) (HF : Ct 125 #[.int .i64 A, .int .i64 B] (.bool v)) : Ct 123 #[.int .i64 64, .int .u64 a, .int .u64 b, .func (.func 124) #[] #[], .func (.func 125) #[] #[]] (.bool v) := by
  refine hide (fun W => ?_)
  have HB := hide (Below.refl W.heap.size W)
  go_enter Tryz.func123, Tryz.ntmps123
  go_wp2_with fail
  refine (unhide HF _).mono ?_
  rintro _ w1 ⟨rfl, hb⟩
  have HB := hide (bthen (unhide HB) hb)
  clear hb
  go_wp2_with fail
  go_ret
  exact ⟨rfl, unhide HB⟩
set_option maxHeartbeats 4000000 in
set_option maxRecDepth 100000 in
theorem ltsno_r {w a b : Int} (h1 : ¬ w = 32) (h2 : ¬ w = 64) : Ct 123 #[.int .i64 w, .int .u64 a, .int .u64 b, .func (.func 124) #[] #[], .func (.func 125) #[] #[]] (.bool false) := by
  refine hide (fun W => ?_)
  have HB := hide (Below.refl W.heap.size W)
  go_enter Tryz.func123, Tryz.ntmps123
  go_wp2_with fail
  go_ret
  exact ⟨rfl, unhide HB⟩
end Go.Proofs.YtpbgpdmffejdgaaGreatDoor
