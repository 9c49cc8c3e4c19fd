/- Walks of package ints: reckon, by the functions that it is handed. -/
import Derived.Test.YtjlegmgpgfjciaaDoorTk
namespace Go.Proofs.YtjlegmgpgfjciaaDoor
open Go.RowKit

set_option maxHeartbeats 4000000 in
set_option maxRecDepth 100000 in
theorem sum32_r {a b A B v : Int} (hA : IntKind.u32.wrap a = A) (hB : IntKind.u32.wrap b = B) (HF : Ct 43 #[.int .u32 A, .int .u32 B] (.int .u64 v)) : Ct 42 #[.int .i64 32, .int .u64 a, .int .u64 b, .func (.func 43) #[] #[], .func (.func 44) #[] #[]] (.int .u64 v) := by
  refine hide (fun W => ?_)
  have HB := hide (Below.refl W.heap.size W)
  go_enter Tryd.func42, Tryd.ntmps42
  go_wp2_with fail
  refine (unhide HF _).mono ?_
  rintro _ w1 ⟨rfl, hb⟩
  have HB := hide (bthen (unhide HB) hb)
  clear hb
  go_wp2_with fail
  go_ret
  exact ⟨rfl, unhide HB⟩
set_option maxHeartbeats 4000000 in
set_option maxRecDepth 100000 in
theorem sum64_r {a b v : Int} (HF : Ct 44 #[.int .u64 a, .int .u64 b] (.int .u64 v)) : Ct 42 #[.int .i64 64, .int .u64 a, .int .u64 b, .func (.func 43) #[] #[], .func (.func 44) #[] #[]] (.int .u64 v) := by
  refine hide (fun W => ?_)
  have HB := hide (Below.refl W.heap.size W)
  go_enter Tryd.func42, Tryd.ntmps42
  go_wp2_with fail
  refine (unhide HF _).mono ?_
  rintro _ w1 ⟨rfl, hb⟩
  have HB := hide (bthen (unhide HB) hb)
  clear hb
  go_wp2_with fail
  go_ret
  exact ⟨rfl, unhide HB⟩
set_option maxHeartbeats 4000000 in
set_option maxRecDepth 100000 in
theorem sumno_r {w a b : Int} (h1 : ¬ w = 32) (h2 : ¬ w = 64) : Ct 42 #[.int .i64 w, .int .u64 a, .int .u64 b, .func (.func 43) #[] #[], .func (.func 44) #[] #[]] (.int .u64 0) := by
  refine hide (fun W => ?_)
  have HB := hide (Below.refl W.heap.size W)
  go_enter Tryd.func42, Tryd.ntmps42
  go_wp2_with fail
  go_ret
  exact ⟨rfl, unhide HB⟩
set_option maxHeartbeats 4000000 in
set_option maxRecDepth 100000 in
theorem lef32_r {a b A B v : Int} (hA : IntKind.u32.wrap a = A) (hB : IntKind.u32.wrap b = B) (HF : Ct 48 #[.int .u32 A, .int .u32 B] (.int .u64 v)) : Ct 42 #[.int .i64 32, .int .u64 a, .int .u64 b, .func (.func 48) #[] #[], .func (.func 49) #[] #[]] (.int .u64 v) := by
  refine hide (fun W => ?_)
  have HB := hide (Below.refl W.heap.size W)
  go_enter Tryd.func42, Tryd.ntmps42
  go_wp2_with fail
  refine (unhide HF _).mono ?_
  rintro _ w1 ⟨rfl, hb⟩
  have HB := hide (bthen (unhide HB) hb)
  clear hb
  go_wp2_with fail
  go_ret
  exact ⟨rfl, unhide HB⟩
set_option maxHeartbeats 4000000 in
set_option maxRecDepth 100000 in
theorem lef64_r {a b v : Int} (HF : Ct 49 #[.int .u64 a, .int .u64 b] (.int .u64 v)) : Ct 42 #[.int .i64 64, .int .u64 a, .int .u64 b, .func (.func 48) #[] #[], .func (.func 49) #[] #[]] (.int .u64 v) := by
  refine hide (fun W => ?_)
  have HB := hide (Below.refl W.heap.size W)
  go_enter Tryd.func42, Tryd.ntmps42
  go_wp2_with fail
  refine (unhide HF _).mono ?_
  rintro _ w1 ⟨rfl, hb⟩
  have HB := hide (bthen (unhide HB) hb)
  clear hb
  go_wp2_with fail
  go_ret
  exact ⟨rfl, unhide HB⟩
set_option maxHeartbeats 4000000 in
set_option maxRecDepth 100000 in
theorem lefno_r {w a b : Int} (h1 : ¬ w = 32) (h2 : ¬ w = 64) : Ct 42 #[.int .i64 w, .int .u64 a, .int .u64 b, .func (.func 48) #[] #[], .func (.func 49) #[] #[]] (.int .u64 0) := by
  refine hide (fun W => ?_)
  have HB := hide (Below.refl W.heap.size W)
  go_enter Tryd.func42, Tryd.ntmps42
  go_wp2_with fail
  go_ret
  exact ⟨rfl, unhide HB⟩
set_option maxHeartbeats 4000000 in
set_option maxRecDepth 100000 in
theorem rig32_r {a b A B v : Int} (hA : IntKind.u32.wrap a = A) (hB : IntKind.u32.wrap b = B) (HF : Ct 50 #[.int .u32 A, .int .u32 B] (.int .u64 v)) : Ct 42 #[.int .i64 32, .int .u64 a, .int .u64 b, .func (.func 50) #[] #[], .func (.func 51) #[] #[]] (.int .u64 v) := by
  refine hide (fun W => ?_)
  have HB := hide (Below.refl W.heap.size W)
  go_enter Tryd.func42, Tryd.ntmps42
  go_wp2_with fail
  refine (unhide HF _).mono ?_
  rintro _ w1 ⟨rfl, hb⟩
  have HB := hide (bthen (unhide HB) hb)
  clear hb
  go_wp2_with fail
  go_ret
  exact ⟨rfl, unhide HB⟩
set_option maxHeartbeats 4000000 in
set_option maxRecDepth 100000 in
theorem rig64_r {a b v : Int} (HF : Ct 51 #[.int .u64 a, .int .u64 b] (.int .u64 v)) : Ct 42 #[.int .i64 64, .int .u64 a, .int .u64 b, .func (.func 50) #[] #[], .func (.func 51) #[] #[]] (.int .u64 v) := by
  refine hide (fun W => ?_)
  have HB := hide (Below.refl W.heap.size W)
  go_enter Tryd.func42, Tryd.ntmps42
  go_wp2_with fail
  refine (unhide HF _).mono ?_
  rintro _ w1 ⟨rfl, hb⟩
  have HB := hide (bthen (unhide HB) hb)
  clear hb
  go_wp2_with fail
  go_ret
  exact ⟨rfl, unhide HB⟩
set_option maxHeartbeats 4000000 in
set_option maxRecDepth 100000 in
theorem rigno_r {w a b : Int} (h1 : ¬ w = 32) (h2 : ¬ w = 64) : Ct 42 #[.int .i64 w, .int .u64 a, .int .u64 b, .func (.func 50) #[] #[], .func (.func 51) #[] #[]] (.int .u64 0) := by
  refine hide (fun W => ?_)
  have HB := hide (Below.refl W.heap.size W)
  go_enter Tryd.func42, Tryd.ntmps42
  go_wp2_with fail
  go_ret
  exact ⟨rfl, unhide HB⟩
set_option maxHeartbeats 4000000 in
set_option maxRecDepth 100000 in
theorem sar32_r {a b A B v : Int} (hA : IntKind.i32.wrap a = A) (hB : IntKind.i32.wrap b = B) (HF : Ct 40 #[.int .i32 A, .int .i32 B] (.int .u64 v)) : Ct 38 #[.int .i64 32, .int .u64 a, .int .u64 b, .func (.func 40) #[] #[], .func (.func 41) #[] #[]] (.int .u64 v) := by
  refine hide (fun W => ?_)
  have HB := hide (Below.refl W.heap.size W)
  go_enter Tryd.func38, Tryd.ntmps38
  go_wp2_with fail
  refine (unhide HF _).mono ?_
  rintro _ w1 ⟨rfl, hb⟩
  have HB := hide (bthen (unhide HB) hb)
  clear hb
  go_wp2_with fail
  go_ret
  exact ⟨rfl, unhide HB⟩
set_option maxHeartbeats 4000000 in
set_option maxRecDepth 100000 in
theorem sar64_r {a b A B v : Int} (hA : IntKind.i64.wrap a = A) (hB : IntKind.i64.wrap b = B) (HF : Ct 41 #[.int .i64 A, .int .i64 B] (.int .u64 v)) : Ct 38 #[.int .i64 64, .int .u64 a, .int .u64 b, .func (.func 40) #[] #[], .func (.func 41) #[] #[]] (.int .u64 v) := by
  refine hide (fun W => ?_)
  have HB := hide (Below.refl W.heap.size W)
  go_enter Tryd.func38, Tryd.ntmps38
  go_wp2_with fail
  refine (unhide HF _).mono ?_
  rintro _ w1 ⟨rfl, hb⟩
  have HB := hide (bthen (unhide HB) hb)
  clear hb
  go_wp2_with fail
  go_ret
  exact ⟨rfl, unhide HB⟩
set_option maxHeartbeats 4000000 in
set_option maxRecDepth 100000 in
theorem sarno_r {w a b : Int} (h1 : ¬ w = 32) (h2 : ¬ w = 64) : Ct 38 #[.int .i64 w, .int .u64 a, .int .u64 b, .func (.func 40) #[] #[], .func (.func 41) #[] #[]] (.int .u64 0) := by
  refine hide (fun W => ?_)
  have HB := hide (Below.refl W.heap.size W)
  go_enter Tryd.func38, Tryd.ntmps38
  go_wp2_with fail
  go_ret
  exact ⟨rfl, unhide HB⟩
set_option maxHeartbeats 4000000 in
set_option maxRecDepth 100000 in
theorem ltu32_r {a b A B : Int} {v : Bool} (hA : IntKind.u32.wrap a = A) (hB : IntKind.u32.wrap b = B) (HF : Ct 29 #[.int .u32 A, .int .u32 B] (.bool v)) : Ct 28 #[.int .i64 32, .int .u64 a, .int .u64 b, .func (.func 29) #[] #[], .func (.func 30) #[] #[]] (.bool v) := by
  refine hide (fun W => ?_)
  have HB := hide (Below.refl W.heap.size W)
  go_enter Tryd.func28, Tryd.ntmps28
  go_wp2_with fail
  refine (unhide HF _).mono ?_
  rintro _ w1 ⟨rfl, hb⟩
  have HB := hide (bthen (unhide HB) hb)
  clear hb
  go_wp2_with fail
  go_ret
  exact ⟨rfl, unhide HB⟩
set_option maxHeartbeats 4000000 in
set_option maxRecDepth 100000 in
theorem ltu64_r {a b : Int} {v : Bool} (HF : Ct 30 #[.int .u64 a, .int .u64 b] (.bool v)) : Ct 28 #[.int .i64 64, .int .u64 a, .int .u64 b, .func (.func 29) #[] #[], .func (.func 30) #[] #[]] (.bool v) := by
  refine hide (fun W => ?_)
  have HB := hide (Below.refl W.heap.size W)
  go_enter Tryd.func28, Tryd.ntmps28
  go_wp2_with fail
  refine (unhide HF _).mono ?_
  rintro _ w1 ⟨rfl, hb⟩
  have HB := hide (bthen (unhide HB) hb)
  clear hb
  go_wp2_with fail
  go_ret
  exact ⟨rfl, unhide HB⟩
set_option maxHeartbeats 4000000 in
set_option maxRecDepth 100000 in
theorem ltuno_r {w a b : Int} (h1 : ¬ w = 32) (h2 : ¬ w = 64) : Ct 28 #[.int .i64 w, .int .u64 a, .int .u64 b, .func (.func 29) #[] #[], .func (.func 30) #[] #[]] (.bool false) := by
  refine hide (fun W => ?_)
  have HB := hide (Below.refl W.heap.size W)
  go_enter Tryd.func28, Tryd.ntmps28
  go_wp2_with fail
  go_ret
  exact ⟨rfl, unhide HB⟩
set_option maxHeartbeats 4000000 in
set_option maxRecDepth 100000 in
theorem lts32_r {a b A B : Int} {v : Bool} (hA : IntKind.i32.wrap a = A) (hB : IntKind.i32.wrap b = B) (HF : Ct 26 #[.int .i32 A, .int .i32 B] (.bool v)) : Ct 25 #[.int .i64 32, .int .u64 a, .int .u64 b, .func (.func 26) #[] #[], .func (.func 27) #[] #[]] (.bool v) := by
  refine hide (fun W => ?_)
  have HB := hide (Below.refl W.heap.size W)
  go_enter Tryd.func25, Tryd.ntmps25
  go_wp2_with fail
  refine (unhide HF _).mono ?_
  rintro _ w1 ⟨rfl, hb⟩
  have HB := hide (bthen (unhide HB) hb)
  clear hb
  go_wp2_with fail
  go_ret
  exact ⟨rfl, unhide HB⟩
set_option maxHeartbeats 4000000 in
set_option maxRecDepth 100000 in
theorem lts64_r {a b A B : Int} {v : Bool} (hA : IntKind.i64.wrap a = A) (hB : IntKind.i64.wrap b = B) (HF : Ct 27 #[.int .i64 A, .int .i64 B] (.bool v)) : Ct 25 #[.int .i64 64, .int .u64 a, .int .u64 b, .func (.func 26) #[] #[], .func (.func 27) #[] #[]] (.bool v) := by
  refine hide (fun W => ?_)
  have HB := hide (Below.refl W.heap.size W)
  go_enter Tryd.func25, Tryd.ntmps25
  go_wp2_with fail
  refine (unhide HF _).mono ?_
  rintro _ w1 ⟨rfl, hb⟩
  have HB := hide (bthen (unhide HB) hb)
  clear hb
  go_wp2_with fail
  go_ret
  exact ⟨rfl, unhide HB⟩
set_option maxHeartbeats 4000000 in
set_option maxRecDepth 100000 in
theorem ltsno_r {w a b : Int} (h1 : ¬ w = 32) (h2 : ¬ w = 64) : Ct 25 #[.int .i64 w, .int .u64 a, .int .u64 b, .func (.func 26) #[] #[], .func (.func 27) #[] #[]] (.bool false) := by
  refine hide (fun W => ?_)
  have HB := hide (Below.refl W.heap.size W)
  go_enter Tryd.func25, Tryd.ntmps25
  go_wp2_with fail
  go_ret
  exact ⟨rfl, unhide HB⟩
set_option maxHeartbeats 4000000 in
set_option maxRecDepth 100000 in
theorem divs32_r {a b A B q r t : Int} (hA : IntKind.i32.wrap a = A) (hB : IntKind.i32.wrap b = B) (HF : Ct 54 #[.int .i32 A, .int .i32 B] (.agg #[.int .u64 q, .int .u64 r, .int .i64 t])) : Ct 53 #[.int .i64 32, .int .u64 a, .int .u64 b, .func (.func 54) #[] #[], .func (.func 55) #[] #[]] (.agg #[.int .u64 q, .int .u64 r, .int .i64 t]) := by
  refine hide (fun W => ?_)
  go_enter Tryd.func53, Tryd.ntmps53
  go_wp2_with fail
  have HB := hide (below1 W (.cells #[.int .u64 0, .int .u64 0, .int .i64 0] 50))
  have HR : Hid (Room W.heap.size 3 (W.alloc (.cells #[.int .u64 0, .int .u64 0, .int .i64 0] 50))) := by
    intro o ho
    match o, ho with
    | 0, _ | 1, _ | 2, _ => simp [go_sem]
  refine (unhide HF _).mono ?_
  rintro _ w1 ⟨rfl, hb⟩
  have HB := hide (bthen (unhide HB) hb)
  have HR := hide ((unhide HR).below hb)
  clear hb
  obtain ⟨⟨v0, c0⟩, f0⟩ := (unhide HR) 0 (by omega)
  obtain ⟨⟨v1, c1⟩, f1⟩ := (unhide HR) 1 (by omega)
  obtain ⟨⟨v2, c2⟩, f2⟩ := (unhide HR) 2 (by omega)
  have zy := lt_of_cell c0
  go_wp2
  exact bodyPost_ret (v := .agg #[.int .u64 q, .int .u64 r, .int .i64 t]) (by simp (maxDischargeDepth := 8) [results, Tryd.results53, go_sem, c0, c1, c2]) rfl ⟨rfl, bset (bset (bset (unhide HB) _ (Nat.le_refl _) _ _) _ (Nat.le_refl _) _ _) _ (Nat.le_refl _) _ _⟩
set_option maxHeartbeats 4000000 in
set_option maxRecDepth 100000 in
theorem divs64_r {a b A B q r t : Int} (hA : IntKind.i64.wrap a = A) (hB : IntKind.i64.wrap b = B) (HF : Ct 55 #[.int .i64 A, .int .i64 B] (.agg #[.int .u64 q, .int .u64 r, .int .i64 t])) : Ct 53 #[.int .i64 64, .int .u64 a, .int .u64 b, .func (.func 54) #[] #[], .func (.func 55) #[] #[]] (.agg #[.int .u64 q, .int .u64 r, .int .i64 t]) := by
  refine hide (fun W => ?_)
  go_enter Tryd.func53, Tryd.ntmps53
  go_wp2_with fail
  have HB := hide (below1 W (.cells #[.int .u64 0, .int .u64 0, .int .i64 0] 50))
  have HR : Hid (Room W.heap.size 3 (W.alloc (.cells #[.int .u64 0, .int .u64 0, .int .i64 0] 50))) := by
    intro o ho
    match o, ho with
    | 0, _ | 1, _ | 2, _ => simp [go_sem]
  refine (unhide HF _).mono ?_
  rintro _ w1 ⟨rfl, hb⟩
  have HB := hide (bthen (unhide HB) hb)
  have HR := hide ((unhide HR).below hb)
  clear hb
  obtain ⟨⟨v0, c0⟩, f0⟩ := (unhide HR) 0 (by omega)
  obtain ⟨⟨v1, c1⟩, f1⟩ := (unhide HR) 1 (by omega)
  obtain ⟨⟨v2, c2⟩, f2⟩ := (unhide HR) 2 (by omega)
  have zy := lt_of_cell c0
  go_wp2
  exact bodyPost_ret (v := .agg #[.int .u64 q, .int .u64 r, .int .i64 t]) (by simp (maxDischargeDepth := 8) [results, Tryd.results53, go_sem, c0, c1, c2]) rfl ⟨rfl, bset (bset (bset (unhide HB) _ (Nat.le_refl _) _ _) _ (Nat.le_refl _) _ _) _ (Nat.le_refl _) _ _⟩
set_option maxHeartbeats 4000000 in
set_option maxRecDepth 100000 in
theorem divsno_r {w a b : Int} (h1 : ¬ w = 32) (h2 : ¬ w = 64) : Ct 53 #[.int .i64 w, .int .u64 a, .int .u64 b, .func (.func 54) #[] #[], .func (.func 55) #[] #[]] (.agg #[.int .u64 0, .int .u64 0, .int .i64 0]) := by
  refine hide (fun W => ?_)
  go_enter Tryd.func53, Tryd.ntmps53
  go_wp2_with fail
  exact bodyPost_ret (v := .agg #[.int .u64 0, .int .u64 0, .int .i64 0]) (by simp [results, Tryd.results53, go_sem]) rfl ⟨rfl, below2 _ _ _⟩
end Go.Proofs.YtjlegmgpgfjciaaDoor
