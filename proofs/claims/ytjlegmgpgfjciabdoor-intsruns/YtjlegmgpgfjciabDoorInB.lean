/- Walks of package ints: reckon, by the functions that it is handed. -/
import Derived.Test.YtjlegmgpgfjciabDoorTk
namespace Go.Proofs.YtjlegmgpgfjciabDoor
open Go.RowKit

set_option maxHeartbeats 4000000 in
set_option maxRecDepth 100000 in
theorem sum32_r {a b A B v : Int} (hA : IntKind.u32.wrap a = A) (hB : IntKind.u32.wrap b = B) (HF : Ct 24 #[.int .u32 A, .int .u32 B] (.int .u64 v)) : Ct 18 #[.int .i64 32, .int .u64 a, .int .u64 b, .func (.func 24) #[] #[], .func (.func 25) #[] #[]] (.int .u64 v) := by
  refine hide (fun W => ?_)
  have HB := hide (Below.refl W.heap.size W)
  go_enter Tryd.func18, Tryd.ntmps18
  go_wp2_with fail
  refine (unhide HF _).mono ?_
  rintro _ w1 ⟨rfl, hb⟩
  have HB := hide (bthen (unhide HB) hb)
  clear hb
  go_wp2_with fail
  go_ret
  exact ⟨rfl, unhide HB⟩
set_option maxHeartbeats 4000000 in
set_option maxRecDepth 100000 in
theorem sum64_r {a b v : Int} (HF : Ct 25 #[.int .u64 a, .int .u64 b] (.int .u64 v)) : Ct 18 #[.int .i64 64, .int .u64 a, .int .u64 b, .func (.func 24) #[] #[], .func (.func 25) #[] #[]] (.int .u64 v) := by
  refine hide (fun W => ?_)
  have HB := hide (Below.refl W.heap.size W)
  go_enter Tryd.func18, Tryd.ntmps18
  go_wp2_with fail
  refine (unhide HF _).mono ?_
  rintro _ w1 ⟨rfl, hb⟩
  have HB := hide (bthen (unhide HB) hb)
  clear hb
  go_wp2_with fail
  go_ret
  exact ⟨rfl, unhide HB⟩
set_option maxHeartbeats 4000000 in
set_option maxRecDepth 100000 in
theorem sumno_r {w a b : Int} (h1 : ¬ w = 32) (h2 : ¬ w = 64) : Ct 18 #[.int .i64 w, .int .u64 a, .int .u64 b, .func (.func 24) #[] #[], .func (.func 25) #[] #[]] (.int .u64 0) := by
  refine hide (fun W => ?_)
  have HB := hide (Below.refl W.heap.size W)
  go_enter Tryd.func18, Tryd.ntmps18
  go_wp2_with fail
  go_ret
  exact ⟨rfl, unhide HB⟩
set_option maxHeartbeats 4000000 in
set_option maxRecDepth 100000 in
theorem lef32_r {a b A B v : Int} (hA : IntKind.u32.wrap a = A) (hB : IntKind.u32.wrap b = B) (HF : Ct 20 #[.int .u32 A, .int .u32 B] (.int .u64 v)) : Ct 18 #[.int .i64 32, .int .u64 a, .int .u64 b, .func (.func 20) #[] #[], .func (.func 21) #[] #[]] (.int .u64 v) := by
  refine hide (fun W => ?_)
  have HB := hide (Below.refl W.heap.size W)
  go_enter Tryd.func18, Tryd.ntmps18
  go_wp2_with fail
  refine (unhide HF _).mono ?_
  rintro _ w1 ⟨rfl, hb⟩
  have HB := hide (bthen (unhide HB) hb)
  clear hb
  go_wp2_with fail
  go_ret
  exact ⟨rfl, unhide HB⟩
set_option maxHeartbeats 4000000 in
set_option maxRecDepth 100000 in
theorem lef64_r {a b v : Int} (HF : Ct 21 #[.int .u64 a, .int .u64 b] (.int .u64 v)) : Ct 18 #[.int .i64 64, .int .u64 a, .int .u64 b, .func (.func 20) #[] #[], .func (.func 21) #[] #[]] (.int .u64 v) := by
  refine hide (fun W => ?_)
  have HB := hide (Below.refl W.heap.size W)
  go_enter Tryd.func18, Tryd.ntmps18
  go_wp2_with fail
  refine (unhide HF _).mono ?_
  rintro _ w1 ⟨rfl, hb⟩
  have HB := hide (bthen (unhide HB) hb)
  clear hb
  go_wp2_with fail
  go_ret
  exact ⟨rfl, unhide HB⟩
set_option maxHeartbeats 4000000 in
set_option maxRecDepth 100000 in
theorem lefno_r {w a b : Int} (h1 : ¬ w = 32) (h2 : ¬ w = 64) : Ct 18 #[.int .i64 w, .int .u64 a, .int .u64 b, .func (.func 20) #[] #[], .func (.func 21) #[] #[]] (.int .u64 0) := by
  refine hide (fun W => ?_)
  have HB := hide (Below.refl W.heap.size W)
  go_enter Tryd.func18, Tryd.ntmps18
  go_wp2_with fail
  go_ret
  exact ⟨rfl, unhide HB⟩
set_option maxHeartbeats 4000000 in
set_option maxRecDepth 100000 in
theorem rig32_r {a b A B v : Int} (hA : IntKind.u32.wrap a = A) (hB : IntKind.u32.wrap b = B) (HF : Ct 22 #[.int .u32 A, .int .u32 B] (.int .u64 v)) : Ct 18 #[.int .i64 32, .int .u64 a, .int .u64 b, .func (.func 22) #[] #[], .func (.func 23) #[] #[]] (.int .u64 v) := by
  refine hide (fun W => ?_)
  have HB := hide (Below.refl W.heap.size W)
  go_enter Tryd.func18, Tryd.ntmps18
  go_wp2_with fail
  refine (unhide HF _).mono ?_
  rintro _ w1 ⟨rfl, hb⟩
  have HB := hide (bthen (unhide HB) hb)
  clear hb
  go_wp2_with fail
  go_ret
  exact ⟨rfl, unhide HB⟩
set_option maxHeartbeats 4000000 in
set_option maxRecDepth 100000 in
theorem rig64_r {a b v : Int} (HF : Ct 23 #[.int .u64 a, .int .u64 b] (.int .u64 v)) : Ct 18 #[.int .i64 64, .int .u64 a, .int .u64 b, .func (.func 22) #[] #[], .func (.func 23) #[] #[]] (.int .u64 v) := by
  refine hide (fun W => ?_)
  have HB := hide (Below.refl W.heap.size W)
  go_enter Tryd.func18, Tryd.ntmps18
  go_wp2_with fail
  refine (unhide HF _).mono ?_
  rintro _ w1 ⟨rfl, hb⟩
  have HB := hide (bthen (unhide HB) hb)
  clear hb
  go_wp2_with fail
  go_ret
  exact ⟨rfl, unhide HB⟩
set_option maxHeartbeats 4000000 in
set_option maxRecDepth 100000 in
theorem rigno_r {w a b : Int} (h1 : ¬ w = 32) (h2 : ¬ w = 64) : Ct 18 #[.int .i64 w, .int .u64 a, .int .u64 b, .func (.func 22) #[] #[], .func (.func 23) #[] #[]] (.int .u64 0) := by
  refine hide (fun W => ?_)
  have HB := hide (Below.refl W.heap.size W)
  go_enter Tryd.func18, Tryd.ntmps18
  go_wp2_with fail
  go_ret
  exact ⟨rfl, unhide HB⟩
set_option maxHeartbeats 4000000 in
set_option maxRecDepth 100000 in
theorem sar32_r {a b A B v : Int} (hA : IntKind.i32.wrap a = A) (hB : IntKind.i32.wrap b = B) (HF : Ct 28 #[.int .i32 A, .int .i32 B] (.int .u64 v)) : Ct 27 #[.int .i64 32, .int .u64 a, .int .u64 b, .func (.func 28) #[] #[], .func (.func 29) #[] #[]] (.int .u64 v) := by
  refine hide (fun W => ?_)
  have HB := hide (Below.refl W.heap.size W)
  go_enter Tryd.func27, Tryd.ntmps27
  go_wp2_with fail
  refine (unhide HF _).mono ?_
  rintro _ w1 ⟨rfl, hb⟩
  have HB := hide (bthen (unhide HB) hb)
  clear hb
  go_wp2_with fail
  go_ret
  exact ⟨rfl, unhide HB⟩
set_option maxHeartbeats 4000000 in
set_option maxRecDepth 100000 in
theorem sar64_r {a b A B v : Int} (hA : IntKind.i64.wrap a = A) (hB : IntKind.i64.wrap b = B) (HF : Ct 29 #[.int .i64 A, .int .i64 B] (.int .u64 v)) : Ct 27 #[.int .i64 64, .int .u64 a, .int .u64 b, .func (.func 28) #[] #[], .func (.func 29) #[] #[]] (.int .u64 v) := by
  refine hide (fun W => ?_)
  have HB := hide (Below.refl W.heap.size W)
  go_enter Tryd.func27, Tryd.ntmps27
  go_wp2_with fail
  refine (unhide HF _).mono ?_
  rintro _ w1 ⟨rfl, hb⟩
  have HB := hide (bthen (unhide HB) hb)
  clear hb
  go_wp2_with fail
  go_ret
  exact ⟨rfl, unhide HB⟩
set_option maxHeartbeats 4000000 in
set_option maxRecDepth 100000 in
theorem sarno_r {w a b : Int} (h1 : ¬ w = 32) (h2 : ¬ w = 64) : Ct 27 #[.int .i64 w, .int .u64 a, .int .u64 b, .func (.func 28) #[] #[], .func (.func 29) #[] #[]] (.int .u64 0) := by
  refine hide (fun W => ?_)
  have HB := hide (Below.refl W.heap.size W)
  go_enter Tryd.func27, Tryd.ntmps27
  go_wp2_with fail
  go_ret
  exact ⟨rfl, unhide HB⟩
set_option maxHeartbeats 4000000 in
set_option maxRecDepth 100000 in
theorem divs32_r {a b A B q r t : Int} (hA : IntKind.i32.wrap a = A) (hB : IntKind.i32.wrap b = B) (HF : Ct 34 #[.int .i32 A, .int .i32 B] (.agg #[.int .u64 q, .int .u64 r, .int .i64 t])) : Ct 33 #[.int .i64 32, .int .u64 a, .int .u64 b, .func (.func 34) #[] #[], .func (.func 35) #[] #[]] (.agg #[.int .u64 q, .int .u64 r, .int .i64 t]) := by
  refine hide (fun W => ?_)
  go_enter Tryd.func33, Tryd.ntmps33
  go_wp2_with fail
  have HB := hide (below1 W (.cells #[.int .u64 0, .int .u64 0, .int .i64 0] 37))
  have HR : Hid (Room W.heap.size 3 (W.alloc (.cells #[.int .u64 0, .int .u64 0, .int .i64 0] 37))) := by
    intro o ho
    match o, ho with
    | 0, _ | 1, _ | 2, _ => simp [go_sem]
  refine (unhide HF _).mono ?_
  rintro _ w1 ⟨rfl, hb⟩
  have HB := hide (bthen (unhide HB) hb)
  have HR := hide ((unhide HR).below hb)
  clear hb
  obtain ⟨⟨v0, c0⟩, f0⟩ := (unhide HR) 0 (by omega)
  obtain ⟨⟨v1, c1⟩, f1⟩ := (unhide HR) 1 (by omega)
  obtain ⟨⟨v2, c2⟩, f2⟩ := (unhide HR) 2 (by omega)
  have zy := lt_of_cell c0
  go_wp2
  exact bodyPost_ret (v := .agg #[.int .u64 q, .int .u64 r, .int .i64 t]) (by simp (maxDischargeDepth := 8) [results, Tryd.results33, go_sem, c0, c1, c2]) rfl ⟨rfl, bset (bset (bset (unhide HB) _ (Nat.le_refl _) _ _) _ (Nat.le_refl _) _ _) _ (Nat.le_refl _) _ _⟩
set_option maxHeartbeats 4000000 in
set_option maxRecDepth 100000 in
theorem divs64_r {a b A B q r t : Int} (hA : IntKind.i64.wrap a = A) (hB : IntKind.i64.wrap b = B) (HF : Ct 35 #[.int .i64 A, .int .i64 B] (.agg #[.int .u64 q, .int .u64 r, .int .i64 t])) : Ct 33 #[.int .i64 64, .int .u64 a, .int .u64 b, .func (.func 34) #[] #[], .func (.func 35) #[] #[]] (.agg #[.int .u64 q, .int .u64 r, .int .i64 t]) := by
  refine hide (fun W => ?_)
  go_enter Tryd.func33, Tryd.ntmps33
  go_wp2_with fail
  have HB := hide (below1 W (.cells #[.int .u64 0, .int .u64 0, .int .i64 0] 37))
  have HR : Hid (Room W.heap.size 3 (W.alloc (.cells #[.int .u64 0, .int .u64 0, .int .i64 0] 37))) := by
    intro o ho
    match o, ho with
    | 0, _ | 1, _ | 2, _ => simp [go_sem]
  refine (unhide HF _).mono ?_
  rintro _ w1 ⟨rfl, hb⟩
  have HB := hide (bthen (unhide HB) hb)
  have HR := hide ((unhide HR).below hb)
  clear hb
  obtain ⟨⟨v0, c0⟩, f0⟩ := (unhide HR) 0 (by omega)
  obtain ⟨⟨v1, c1⟩, f1⟩ := (unhide HR) 1 (by omega)
  obtain ⟨⟨v2, c2⟩, f2⟩ := (unhide HR) 2 (by omega)
  have zy := lt_of_cell c0
  go_wp2
  exact bodyPost_ret (v := .agg #[.int .u64 q, .int .u64 r, .int .i64 t]) (by simp (maxDischargeDepth := 8) [results, Tryd.results33, go_sem, c0, c1, c2]) rfl ⟨rfl, bset (bset (bset (unhide HB) _ (Nat.le_refl _) _ _) _ (Nat.le_refl _) _ _) _ (Nat.le_refl _) _ _⟩
set_option maxHeartbeats 4000000 in
set_option maxRecDepth 100000 in
theorem divsno_r {w a b : Int} (h1 : ¬ w = 32) (h2 : ¬ w = 64) : Ct 33 #[.int .i64 w, .int .u64 a, .int .u64 b, .func (.func 34) #[] #[], .func (.func 35) #[] #[]] (.agg #[.int .u64 0, .int .u64 0, .int .i64 0]) := by
  refine hide (fun W => ?_)
  go_enter Tryd.func33, Tryd.ntmps33
  go_wp2_with fail
  exact bodyPost_ret (v := .agg #[.int .u64 0, .int .u64 0, .int .i64 0]) (by simp [results, Tryd.results33, go_sem]) rfl ⟨rfl, below2 _ _ _⟩
end Go.Proofs.YtjlegmgpgfjciabDoor
