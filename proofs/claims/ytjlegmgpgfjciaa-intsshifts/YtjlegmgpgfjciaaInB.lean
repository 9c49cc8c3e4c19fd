/- Walks of package ints: reckon, by the functions that it is handed. -/
import Derived.Test.YtjlegmgpgfjciaaTk
namespace Go.Proofs.Ytjlegmgpgfjciaa
open Go.RowKit

set_option maxHeartbeats 4000000 in
set_option maxRecDepth 100000 in
theorem sum32_r {a b A B v : Int} (hA : IntKind.u32.wrap a = A) (hB : IntKind.u32.wrap b = B) (HF : Ct 33 #[.int .u32 A, .int .u32 B] (.int .u64 v)) : Ct 32 #[.int .i64 32, .int .u64 a, .int .u64 b, .func (.func 33) #[] #[], .func (.func 34) #[] #[]] (.int .u64 v) := by
  refine hide (fun W => ?_)
  have HB := hide (Below.refl W.heap.size W)
  go_enter Try.func32, Try.ntmps32
  go_wp2_with fail
  refine (unhide HF _).mono ?_
  rintro _ w1 ⟨rfl, hb⟩
  have HB := hide (bthen (unhide HB) hb)
  clear hb
  go_wp2_with fail
  go_ret
  exact ⟨rfl, unhide HB⟩
set_option maxHeartbeats 4000000 in
set_option maxRecDepth 100000 in
theorem sum64_r {a b v : Int} (HF : Ct 34 #[.int .u64 a, .int .u64 b] (.int .u64 v)) : Ct 32 #[.int .i64 64, .int .u64 a, .int .u64 b, .func (.func 33) #[] #[], .func (.func 34) #[] #[]] (.int .u64 v) := by
  refine hide (fun W => ?_)
  have HB := hide (Below.refl W.heap.size W)
  go_enter Try.func32, Try.ntmps32
  go_wp2_with fail
  refine (unhide HF _).mono ?_
  rintro _ w1 ⟨rfl, hb⟩
  have HB := hide (bthen (unhide HB) hb)
  clear hb
  go_wp2_with fail
  go_ret
  exact ⟨rfl, unhide HB⟩
set_option maxHeartbeats 4000000 in
set_option maxRecDepth 100000 in
theorem sumno_r {w a b : Int} (h1 : ¬ w = 32) (h2 : ¬ w = 64) : Ct 32 #[.int .i64 w, .int .u64 a, .int .u64 b, .func (.func 33) #[] #[], .func (.func 34) #[] #[]] (.int .u64 0) := by
  refine hide (fun W => ?_)
  have HB := hide (Below.refl W.heap.size W)
  go_enter Try.func32, Try.ntmps32
  go_wp2_with fail
  go_ret
  exact ⟨rfl, unhide HB⟩
set_option maxHeartbeats 4000000 in
set_option maxRecDepth 100000 in
theorem dif32_r {a b A B v : Int} (hA : IntKind.u32.wrap a = A) (hB : IntKind.u32.wrap b = B) (HF : Ct 35 #[.int .u32 A, .int .u32 B] (.int .u64 v)) : Ct 32 #[.int .i64 32, .int .u64 a, .int .u64 b, .func (.func 35) #[] #[], .func (.func 36) #[] #[]] (.int .u64 v) := by
  refine hide (fun W => ?_)
  have HB := hide (Below.refl W.heap.size W)
  go_enter Try.func32, Try.ntmps32
  go_wp2_with fail
  refine (unhide HF _).mono ?_
  rintro _ w1 ⟨rfl, hb⟩
  have HB := hide (bthen (unhide HB) hb)
  clear hb
  go_wp2_with fail
  go_ret
  exact ⟨rfl, unhide HB⟩
set_option maxHeartbeats 4000000 in
set_option maxRecDepth 100000 in
theorem dif64_r {a b v : Int} (HF : Ct 36 #[.int .u64 a, .int .u64 b] (.int .u64 v)) : Ct 32 #[.int .i64 64, .int .u64 a, .int .u64 b, .func (.func 35) #[] #[], .func (.func 36) #[] #[]] (.int .u64 v) := by
  refine hide (fun W => ?_)
  have HB := hide (Below.refl W.heap.size W)
  go_enter Try.func32, Try.ntmps32
  go_wp2_with fail
  refine (unhide HF _).mono ?_
  rintro _ w1 ⟨rfl, hb⟩
  have HB := hide (bthen (unhide HB) hb)
  clear hb
  go_wp2_with fail
  go_ret
  exact ⟨rfl, unhide HB⟩
set_option maxHeartbeats 4000000 in
set_option maxRecDepth 100000 in
theorem difno_r {w a b : Int} (h1 : ¬ w = 32) (h2 : ¬ w = 64) : Ct 32 #[.int .i64 w, .int .u64 a, .int .u64 b, .func (.func 35) #[] #[], .func (.func 36) #[] #[]] (.int .u64 0) := by
  refine hide (fun W => ?_)
  have HB := hide (Below.refl W.heap.size W)
  go_enter Try.func32, Try.ntmps32
  go_wp2_with fail
  go_ret
  exact ⟨rfl, unhide HB⟩
set_option maxHeartbeats 4000000 in
set_option maxRecDepth 100000 in
theorem pro32_r {a b A B v : Int} (hA : IntKind.u32.wrap a = A) (hB : IntKind.u32.wrap b = B) (HF : Ct 37 #[.int .u32 A, .int .u32 B] (.int .u64 v)) : Ct 32 #[.int .i64 32, .int .u64 a, .int .u64 b, .func (.func 37) #[] #[], .func (.func 38) #[] #[]] (.int .u64 v) := by
  refine hide (fun W => ?_)
  have HB := hide (Below.refl W.heap.size W)
  go_enter Try.func32, Try.ntmps32
  go_wp2_with fail
  refine (unhide HF _).mono ?_
  rintro _ w1 ⟨rfl, hb⟩
  have HB := hide (bthen (unhide HB) hb)
  clear hb
  go_wp2_with fail
  go_ret
  exact ⟨rfl, unhide HB⟩
set_option maxHeartbeats 4000000 in
set_option maxRecDepth 100000 in
theorem pro64_r {a b v : Int} (HF : Ct 38 #[.int .u64 a, .int .u64 b] (.int .u64 v)) : Ct 32 #[.int .i64 64, .int .u64 a, .int .u64 b, .func (.func 37) #[] #[], .func (.func 38) #[] #[]] (.int .u64 v) := by
  refine hide (fun W => ?_)
  have HB := hide (Below.refl W.heap.size W)
  go_enter Try.func32, Try.ntmps32
  go_wp2_with fail
  refine (unhide HF _).mono ?_
  rintro _ w1 ⟨rfl, hb⟩
  have HB := hide (bthen (unhide HB) hb)
  clear hb
  go_wp2_with fail
  go_ret
  exact ⟨rfl, unhide HB⟩
set_option maxHeartbeats 4000000 in
set_option maxRecDepth 100000 in
theorem prono_r {w a b : Int} (h1 : ¬ w = 32) (h2 : ¬ w = 64) : Ct 32 #[.int .i64 w, .int .u64 a, .int .u64 b, .func (.func 37) #[] #[], .func (.func 38) #[] #[]] (.int .u64 0) := by
  refine hide (fun W => ?_)
  have HB := hide (Below.refl W.heap.size W)
  go_enter Try.func32, Try.ntmps32
  go_wp2_with fail
  go_ret
  exact ⟨rfl, unhide HB⟩
set_option maxHeartbeats 4000000 in
set_option maxRecDepth 100000 in
theorem lef32_r {a b A B v : Int} (hA : IntKind.u32.wrap a = A) (hB : IntKind.u32.wrap b = B) (HF : Ct 54 #[.int .u32 A, .int .u32 B] (.int .u64 v)) : Ct 32 #[.int .i64 32, .int .u64 a, .int .u64 b, .func (.func 54) #[] #[], .func (.func 55) #[] #[]] (.int .u64 v) := by
  refine hide (fun W => ?_)
  have HB := hide (Below.refl W.heap.size W)
  go_enter Try.func32, Try.ntmps32
  go_wp2_with fail
  refine (unhide HF _).mono ?_
  rintro _ w1 ⟨rfl, hb⟩
  have HB := hide (bthen (unhide HB) hb)
  clear hb
  go_wp2_with fail
  go_ret
  exact ⟨rfl, unhide HB⟩
set_option maxHeartbeats 4000000 in
set_option maxRecDepth 100000 in
theorem lef64_r {a b v : Int} (HF : Ct 55 #[.int .u64 a, .int .u64 b] (.int .u64 v)) : Ct 32 #[.int .i64 64, .int .u64 a, .int .u64 b, .func (.func 54) #[] #[], .func (.func 55) #[] #[]] (.int .u64 v) := by
  refine hide (fun W => ?_)
  have HB := hide (Below.refl W.heap.size W)
  go_enter Try.func32, Try.ntmps32
  go_wp2_with fail
  refine (unhide HF _).mono ?_
  rintro _ w1 ⟨rfl, hb⟩
  have HB := hide (bthen (unhide HB) hb)
  clear hb
  go_wp2_with fail
  go_ret
  exact ⟨rfl, unhide HB⟩
set_option maxHeartbeats 4000000 in
set_option maxRecDepth 100000 in
theorem lefno_r {w a b : Int} (h1 : ¬ w = 32) (h2 : ¬ w = 64) : Ct 32 #[.int .i64 w, .int .u64 a, .int .u64 b, .func (.func 54) #[] #[], .func (.func 55) #[] #[]] (.int .u64 0) := by
  refine hide (fun W => ?_)
  have HB := hide (Below.refl W.heap.size W)
  go_enter Try.func32, Try.ntmps32
  go_wp2_with fail
  go_ret
  exact ⟨rfl, unhide HB⟩
set_option maxHeartbeats 4000000 in
set_option maxRecDepth 100000 in
theorem rig32_r {a b A B v : Int} (hA : IntKind.u32.wrap a = A) (hB : IntKind.u32.wrap b = B) (HF : Ct 56 #[.int .u32 A, .int .u32 B] (.int .u64 v)) : Ct 32 #[.int .i64 32, .int .u64 a, .int .u64 b, .func (.func 56) #[] #[], .func (.func 57) #[] #[]] (.int .u64 v) := by
  refine hide (fun W => ?_)
  have HB := hide (Below.refl W.heap.size W)
  go_enter Try.func32, Try.ntmps32
  go_wp2_with fail
  refine (unhide HF _).mono ?_
  rintro _ w1 ⟨rfl, hb⟩
  have HB := hide (bthen (unhide HB) hb)
  clear hb
  go_wp2_with fail
  go_ret
  exact ⟨rfl, unhide HB⟩
set_option maxHeartbeats 4000000 in
set_option maxRecDepth 100000 in
theorem rig64_r {a b v : Int} (HF : Ct 57 #[.int .u64 a, .int .u64 b] (.int .u64 v)) : Ct 32 #[.int .i64 64, .int .u64 a, .int .u64 b, .func (.func 56) #[] #[], .func (.func 57) #[] #[]] (.int .u64 v) := by
  refine hide (fun W => ?_)
  have HB := hide (Below.refl W.heap.size W)
  go_enter Try.func32, Try.ntmps32
  go_wp2_with fail
  refine (unhide HF _).mono ?_
  rintro _ w1 ⟨rfl, hb⟩
  have HB := hide (bthen (unhide HB) hb)
  clear hb
  go_wp2_with fail
  go_ret
  exact ⟨rfl, unhide HB⟩
set_option maxHeartbeats 4000000 in
set_option maxRecDepth 100000 in
theorem rigno_r {w a b : Int} (h1 : ¬ w = 32) (h2 : ¬ w = 64) : Ct 32 #[.int .i64 w, .int .u64 a, .int .u64 b, .func (.func 56) #[] #[], .func (.func 57) #[] #[]] (.int .u64 0) := by
  refine hide (fun W => ?_)
  have HB := hide (Below.refl W.heap.size W)
  go_enter Try.func32, Try.ntmps32
  go_wp2_with fail
  go_ret
  exact ⟨rfl, unhide HB⟩
set_option maxHeartbeats 4000000 in
set_option maxRecDepth 100000 in
theorem sar32_r {a b A B v : Int} (hA : IntKind.i32.wrap a = A) (hB : IntKind.i32.wrap b = B) (HF : Ct 59 #[.int .i32 A, .int .i32 B] (.int .u64 v)) : Ct 58 #[.int .i64 32, .int .u64 a, .int .u64 b, .func (.func 59) #[] #[], .func (.func 60) #[] #[]] (.int .u64 v) := by
  refine hide (fun W => ?_)
  have HB := hide (Below.refl W.heap.size W)
  go_enter Try.func58, Try.ntmps58
  go_wp2_with fail
  refine (unhide HF _).mono ?_
  rintro _ w1 ⟨rfl, hb⟩
  have HB := hide (bthen (unhide HB) hb)
  clear hb
  go_wp2_with fail
  go_ret
  exact ⟨rfl, unhide HB⟩
set_option maxHeartbeats 4000000 in
set_option maxRecDepth 100000 in
theorem sar64_r {a b A B v : Int} (hA : IntKind.i64.wrap a = A) (hB : IntKind.i64.wrap b = B) (HF : Ct 60 #[.int .i64 A, .int .i64 B] (.int .u64 v)) : Ct 58 #[.int .i64 64, .int .u64 a, .int .u64 b, .func (.func 59) #[] #[], .func (.func 60) #[] #[]] (.int .u64 v) := by
  refine hide (fun W => ?_)
  have HB := hide (Below.refl W.heap.size W)
  go_enter Try.func58, Try.ntmps58
  go_wp2_with fail
  refine (unhide HF _).mono ?_
  rintro _ w1 ⟨rfl, hb⟩
  have HB := hide (bthen (unhide HB) hb)
  clear hb
  go_wp2_with fail
  go_ret
  exact ⟨rfl, unhide HB⟩
set_option maxHeartbeats 4000000 in
set_option maxRecDepth 100000 in
theorem sarno_r {w a b : Int} (h1 : ¬ w = 32) (h2 : ¬ w = 64) : Ct 58 #[.int .i64 w, .int .u64 a, .int .u64 b, .func (.func 59) #[] #[], .func (.func 60) #[] #[]] (.int .u64 0) := by
  refine hide (fun W => ?_)
  have HB := hide (Below.refl W.heap.size W)
  go_enter Try.func58, Try.ntmps58
  go_wp2_with fail
  go_ret
  exact ⟨rfl, unhide HB⟩
set_option maxHeartbeats 4000000 in
set_option maxRecDepth 100000 in
theorem ltu32_r {a b A B : Int} {v : Bool} (hA : IntKind.u32.wrap a = A) (hB : IntKind.u32.wrap b = B) (HF : Ct 64 #[.int .u32 A, .int .u32 B] (.bool v)) : Ct 63 #[.int .i64 32, .int .u64 a, .int .u64 b, .func (.func 64) #[] #[], .func (.func 65) #[] #[]] (.bool v) := by
  refine hide (fun W => ?_)
  have HB := hide (Below.refl W.heap.size W)
  go_enter Try.func63, Try.ntmps63
  go_wp2_with fail
  refine (unhide HF _).mono ?_
  rintro _ w1 ⟨rfl, hb⟩
  have HB := hide (bthen (unhide HB) hb)
  clear hb
  go_wp2_with fail
  go_ret
  exact ⟨rfl, unhide HB⟩
set_option maxHeartbeats 4000000 in
set_option maxRecDepth 100000 in
theorem ltu64_r {a b : Int} {v : Bool} (HF : Ct 65 #[.int .u64 a, .int .u64 b] (.bool v)) : Ct 63 #[.int .i64 64, .int .u64 a, .int .u64 b, .func (.func 64) #[] #[], .func (.func 65) #[] #[]] (.bool v) := by
  refine hide (fun W => ?_)
  have HB := hide (Below.refl W.heap.size W)
  go_enter Try.func63, Try.ntmps63
  go_wp2_with fail
  refine (unhide HF _).mono ?_
  rintro _ w1 ⟨rfl, hb⟩
  have HB := hide (bthen (unhide HB) hb)
  clear hb
  go_wp2_with fail
  go_ret
  exact ⟨rfl, unhide HB⟩
set_option maxHeartbeats 4000000 in
set_option maxRecDepth 100000 in
theorem ltuno_r {w a b : Int} (h1 : ¬ w = 32) (h2 : ¬ w = 64) : Ct 63 #[.int .i64 w, .int .u64 a, .int .u64 b, .func (.func 64) #[] #[], .func (.func 65) #[] #[]] (.bool false) := by
  refine hide (fun W => ?_)
  have HB := hide (Below.refl W.heap.size W)
  go_enter Try.func63, Try.ntmps63
  go_wp2_with fail
  go_ret
  exact ⟨rfl, unhide HB⟩
set_option maxHeartbeats 4000000 in
set_option maxRecDepth 100000 in
theorem divu32_r {a b A B q r t : Int} (hA : IntKind.u32.wrap a = A) (hB : IntKind.u32.wrap b = B) (HF : Ct 71 #[.int .u32 A, .int .u32 B] (.agg #[.int .u64 q, .int .u64 r, .int .i64 t])) : Ct 70 #[.int .i64 32, .int .u64 a, .int .u64 b, .func (.func 71) #[] #[], .func (.func 72) #[] #[]] (.agg #[.int .u64 q, .int .u64 r, .int .i64 t]) := by
  refine hide (fun W => ?_)
  go_enter Try.func70, Try.ntmps70
  go_wp2_with fail
  have HB := hide (below1 W (.cells #[.int .u64 0, .int .u64 0, .int .i64 0] 51))
  have HR : Hid (Room W.heap.size 3 (W.alloc (.cells #[.int .u64 0, .int .u64 0, .int .i64 0] 51))) := by
    intro o ho
    match o, ho with
    | 0, _ | 1, _ | 2, _ => simp [go_sem]
  refine (unhide HF _).mono ?_
  rintro _ w1 ⟨rfl, hb⟩
  have HB := hide (bthen (unhide HB) hb)
  have HR := hide ((unhide HR).below hb)
  clear hb
  obtain ⟨⟨v0, c0⟩, f0⟩ := (unhide HR) 0 (by omega)
  obtain ⟨⟨v1, c1⟩, f1⟩ := (unhide HR) 1 (by omega)
  obtain ⟨⟨v2, c2⟩, f2⟩ := (unhide HR) 2 (by omega)
  have zy := lt_of_cell c0
  go_wp2
  exact bodyPost_ret (v := .agg #[.int .u64 q, .int .u64 r, .int .i64 t]) (by simp (maxDischargeDepth := 8) [results, Try.results70, go_sem, c0, c1, c2]) rfl ⟨rfl, bset (bset (bset (unhide HB) _ (Nat.le_refl _) _ _) _ (Nat.le_refl _) _ _) _ (Nat.le_refl _) _ _⟩
set_option maxHeartbeats 4000000 in
set_option maxRecDepth 100000 in
theorem divu64_r {a b q r t : Int} (HF : Ct 72 #[.int .u64 a, .int .u64 b] (.agg #[.int .u64 q, .int .u64 r, .int .i64 t])) : Ct 70 #[.int .i64 64, .int .u64 a, .int .u64 b, .func (.func 71) #[] #[], .func (.func 72) #[] #[]] (.agg #[.int .u64 q, .int .u64 r, .int .i64 t]) := by
  refine hide (fun W => ?_)
  go_enter Try.func70, Try.ntmps70
  go_wp2_with fail
  have HB := hide (below1 W (.cells #[.int .u64 0, .int .u64 0, .int .i64 0] 51))
  have HR : Hid (Room W.heap.size 3 (W.alloc (.cells #[.int .u64 0, .int .u64 0, .int .i64 0] 51))) := by
    intro o ho
    match o, ho with
    | 0, _ | 1, _ | 2, _ => simp [go_sem]
  refine (unhide HF _).mono ?_
  rintro _ w1 ⟨rfl, hb⟩
  have HB := hide (bthen (unhide HB) hb)
  have HR := hide ((unhide HR).below hb)
  clear hb
  obtain ⟨⟨v0, c0⟩, f0⟩ := (unhide HR) 0 (by omega)
  obtain ⟨⟨v1, c1⟩, f1⟩ := (unhide HR) 1 (by omega)
  obtain ⟨⟨v2, c2⟩, f2⟩ := (unhide HR) 2 (by omega)
  have zy := lt_of_cell c0
  go_wp2
  exact bodyPost_ret (v := .agg #[.int .u64 q, .int .u64 r, .int .i64 t]) (by simp (maxDischargeDepth := 8) [results, Try.results70, go_sem, c0, c1, c2]) rfl ⟨rfl, bset (bset (bset (unhide HB) _ (Nat.le_refl _) _ _) _ (Nat.le_refl _) _ _) _ (Nat.le_refl _) _ _⟩
set_option maxHeartbeats 4000000 in
set_option maxRecDepth 100000 in
theorem divuno_r {w a b : Int} (h1 : ¬ w = 32) (h2 : ¬ w = 64) : Ct 70 #[.int .i64 w, .int .u64 a, .int .u64 b, .func (.func 71) #[] #[], .func (.func 72) #[] #[]] (.agg #[.int .u64 0, .int .u64 0, .int .i64 0]) := by
  refine hide (fun W => ?_)
  go_enter Try.func70, Try.ntmps70
  go_wp2_with fail
  exact bodyPost_ret (v := .agg #[.int .u64 0, .int .u64 0, .int .i64 0]) (by simp [results, Try.results70, go_sem]) rfl ⟨rfl, below2 _ _ _⟩
set_option maxHeartbeats 4000000 in
set_option maxRecDepth 100000 in
theorem divs32_r {a b A B q r t : Int} (hA : IntKind.i32.wrap a = A) (hB : IntKind.i32.wrap b = B) (HF : Ct 74 #[.int .i32 A, .int .i32 B] (.agg #[.int .u64 q, .int .u64 r, .int .i64 t])) : Ct 73 #[.int .i64 32, .int .u64 a, .int .u64 b, .func (.func 74) #[] #[], .func (.func 75) #[] #[]] (.agg #[.int .u64 q, .int .u64 r, .int .i64 t]) := by
  refine hide (fun W => ?_)
  go_enter Try.func73, Try.ntmps73
  go_wp2_with fail
  have HB := hide (below1 W (.cells #[.int .u64 0, .int .u64 0, .int .i64 0] 51))
  have HR : Hid (Room W.heap.size 3 (W.alloc (.cells #[.int .u64 0, .int .u64 0, .int .i64 0] 51))) := by
    intro o ho
    match o, ho with
    | 0, _ | 1, _ | 2, _ => simp [go_sem]
  refine (unhide HF _).mono ?_
  rintro _ w1 ⟨rfl, hb⟩
  have HB := hide (bthen (unhide HB) hb)
  have HR := hide ((unhide HR).below hb)
  clear hb
  obtain ⟨⟨v0, c0⟩, f0⟩ := (unhide HR) 0 (by omega)
  obtain ⟨⟨v1, c1⟩, f1⟩ := (unhide HR) 1 (by omega)
  obtain ⟨⟨v2, c2⟩, f2⟩ := (unhide HR) 2 (by omega)
  have zy := lt_of_cell c0
  go_wp2
  exact bodyPost_ret (v := .agg #[.int .u64 q, .int .u64 r, .int .i64 t]) (by simp (maxDischargeDepth := 8) [results, Try.results73, go_sem, c0, c1, c2]) rfl ⟨rfl, bset (bset (bset (unhide HB) _ (Nat.le_refl _) _ _) _ (Nat.le_refl _) _ _) _ (Nat.le_refl _) _ _⟩
set_option maxHeartbeats 4000000 in
set_option maxRecDepth 100000 in
theorem divs64_r {a b A B q r t : Int} (hA : IntKind.i64.wrap a = A) (hB : IntKind.i64.wrap b = B) (HF : Ct 75 #[.int .i64 A, .int .i64 B] (.agg #[.int .u64 q, .int .u64 r, .int .i64 t])) : Ct 73 #[.int .i64 64, .int .u64 a, .int .u64 b, .func (.func 74) #[] #[], .func (.func 75) #[] #[]] (.agg #[.int .u64 q, .int .u64 r, .int .i64 t]) := by
  refine hide (fun W => ?_)
  go_enter Try.func73, Try.ntmps73
  go_wp2_with fail
  have HB := hide (below1 W (.cells #[.int .u64 0, .int .u64 0, .int .i64 0] 51))
  have HR : Hid (Room W.heap.size 3 (W.alloc (.cells #[.int .u64 0, .int .u64 0, .int .i64 0] 51))) := by
    intro o ho
    match o, ho with
    | 0, _ | 1, _ | 2, _ => simp [go_sem]
  refine (unhide HF _).mono ?_
  rintro _ w1 ⟨rfl, hb⟩
  have HB := hide (bthen (unhide HB) hb)
  have HR := hide ((unhide HR).below hb)
  clear hb
  obtain ⟨⟨v0, c0⟩, f0⟩ := (unhide HR) 0 (by omega)
  obtain ⟨⟨v1, c1⟩, f1⟩ := (unhide HR) 1 (by omega)
  obtain ⟨⟨v2, c2⟩, f2⟩ := (unhide HR) 2 (by omega)
  have zy := lt_of_cell c0
  go_wp2
  exact bodyPost_ret (v := .agg #[.int .u64 q, .int .u64 r, .int .i64 t]) (by simp (maxDischargeDepth := 8) [results, Try.results73, go_sem, c0, c1, c2]) rfl ⟨rfl, bset (bset (bset (unhide HB) _ (Nat.le_refl _) _ _) _ (Nat.le_refl _) _ _) _ (Nat.le_refl _) _ _⟩
set_option maxHeartbeats 4000000 in
set_option maxRecDepth 100000 in
theorem divsno_r {w a b : Int} (h1 : ¬ w = 32) (h2 : ¬ w = 64) : Ct 73 #[.int .i64 w, .int .u64 a, .int .u64 b, .func (.func 74) #[] #[], .func (.func 75) #[] #[]] (.agg #[.int .u64 0, .int .u64 0, .int .i64 0]) := by
  refine hide (fun W => ?_)
  go_enter Try.func73, Try.ntmps73
  go_wp2_with fail
  exact bodyPost_ret (v := .agg #[.int .u64 0, .int .u64 0, .int .i64 0]) (by simp [results, Try.results73, go_sem]) rfl ⟨rfl, below2 _ _ _⟩
end Go.Proofs.Ytjlegmgpgfjciaa
