/- The law's small: what is read as one number, by the program and by the document. -/
import Derived.Test.YtphgljhlamjmgaaRfH
import Derived.Test.YtphgljhlamjmgaaRfC
namespace Go.Proofs.Ytphgljhlamjmgaa
open Go.RowKit

/-- What a call does from one state to another. -/
def Ds (f : Nat) (args : Array Value) (I J : World → Prop) (v : Value) : Prop := Hid (∀ w, I w → Calls Try.prog f args w fun r w' => r = .returned v ∧ J w')
set_option maxHeartbeats 1000000 in
set_option maxRecDepth 100000 in
theorem small_1 {pv qv : Value} {I0 I1 I2 : World → Prop} {n : Int} {x y : Int} {W : World} (HU : Ds 45 #[pv] I0 I1 (.int .u8 x)) (HV : Ds 46 #[qv] I1 I2 (.int .u8 y))
    (HI : Hid (I0 (W.alloc (.cells #[.int .i64 1, .int .i64 n] 31)))) :
    Calls Try.prog 25 #[pv, qv, .agg #[.int .i64 1, .int .i64 n]] W fun r w' => (∃ t, r = .returned (.bool t) ∧ (x = y → t = true)) ∧ I2 w' := by
  go_enter Try.func25, Try.ntmps25
  go_wp2_with fail
  refine (unhide HU _ (unhide HI)).mono ?_
  rintro _ w1 ⟨rfl, hI⟩
  have HI := hide hI
  clear hI
  go_wp2_with fail
  refine (unhide HV _ (unhide HI)).mono ?_
  rintro _ w2 ⟨rfl, hI⟩
  have HI := hide hI
  clear hI
  go_wp2_with fail
  go_ret
  exact ⟨⟨_, rfl, fun h => by subst h; simp⟩, unhide HI⟩
set_option maxHeartbeats 1000000 in
set_option maxRecDepth 100000 in
theorem small_2 {pv qv : Value} {I0 I1 I2 : World → Prop} {n : Int} {x y : Int} {W : World} (HU : Ds 35 #[pv] I0 I1 (.int .u32 x)) (HV : Ds 37 #[qv, .int .i64 32] I1 I2 (.int .u64 y)) (x0 : 0 ≤ x) (x1 : x < 4294967296)
    (HI : Hid (I0 (W.alloc (.cells #[.int .i64 2, .int .i64 n] 31)))) :
    Calls Try.prog 25 #[pv, qv, .agg #[.int .i64 2, .int .i64 n]] W fun r w' => (∃ t, r = .returned (.bool t) ∧ (x = y → t = true)) ∧ I2 w' := by
  go_enter Try.func25, Try.ntmps25
  go_wp2_with fail
  refine (unhide HU _ (unhide HI)).mono ?_
  rintro _ w1 ⟨rfl, hI⟩
  have HI := hide hI
  clear hI
  go_wp2_with fail
  refine (unhide HV _ (unhide HI)).mono ?_
  rintro _ w2 ⟨rfl, hI⟩
  have HI := hide hI
  clear hI
  go_wp2_with fail
  go_ret
  exact ⟨⟨_, rfl, fun h => by subst h; simp⟩, unhide HI⟩
set_option maxHeartbeats 1000000 in
set_option maxRecDepth 100000 in
theorem small_3 {pv qv : Value} {I0 I1 I2 : World → Prop} {n : Int} {x y : Int} {W : World} (HU : Ds 47 #[pv] I0 I1 (.int .u32 x)) (HV : Ds 48 #[qv, .int .i64 32] I1 I2 (.int .u64 y)) (x0 : 0 ≤ x) (x1 : x < 4294967296)
    (HI : Hid (I0 (W.alloc (.cells #[.int .i64 3, .int .i64 n] 31)))) :
    Calls Try.prog 25 #[pv, qv, .agg #[.int .i64 3, .int .i64 n]] W fun r w' => (∃ t, r = .returned (.bool t) ∧ (x = y → t = true)) ∧ I2 w' := by
  go_enter Try.func25, Try.ntmps25
  go_wp2_with fail
  refine (unhide HU _ (unhide HI)).mono ?_
  rintro _ w1 ⟨rfl, hI⟩
  have HI := hide hI
  clear hI
  go_wp2_with fail
  refine (unhide HV _ (unhide HI)).mono ?_
  rintro _ w2 ⟨rfl, hI⟩
  have HI := hide hI
  clear hI
  go_wp2_with fail
  go_ret
  exact ⟨⟨_, rfl, fun h => by subst h; simp⟩, unhide HI⟩
set_option maxHeartbeats 1000000 in
set_option maxRecDepth 100000 in
theorem small_4 {pv qv : Value} {I0 I1 I2 : World → Prop} {n : Int} {x y : Int} {W : World} (HU : Ds 49 #[pv] I0 I1 (.int .u64 x)) (HV : Ds 48 #[qv, .int .i64 64] I1 I2 (.int .u64 y))
    (HI : Hid (I0 (W.alloc (.cells #[.int .i64 4, .int .i64 n] 31)))) :
    Calls Try.prog 25 #[pv, qv, .agg #[.int .i64 4, .int .i64 n]] W fun r w' => (∃ t, r = .returned (.bool t) ∧ (x = y → t = true)) ∧ I2 w' := by
  go_enter Try.func25, Try.ntmps25
  go_wp2_with fail
  refine (unhide HU _ (unhide HI)).mono ?_
  rintro _ w1 ⟨rfl, hI⟩
  have HI := hide hI
  clear hI
  go_wp2_with fail
  refine (unhide HV _ (unhide HI)).mono ?_
  rintro _ w2 ⟨rfl, hI⟩
  have HI := hide hI
  clear hI
  go_wp2_with fail
  go_ret
  exact ⟨⟨_, rfl, fun h => by subst h; simp⟩, unhide HI⟩
set_option maxHeartbeats 1000000 in
set_option maxRecDepth 100000 in
theorem small_7 {pv qv : Value} {I0 I1 I2 : World → Prop} {n : Int} {x y : ByteArray} {W : World} (HU : Ds 54 #[pv] I0 I1 (.string x)) (HV : Ds 55 #[qv] I1 I2 (.string y))
    (HI : Hid (I0 (W.alloc (.cells #[.int .i64 7, .int .i64 n] 31)))) :
    Calls Try.prog 25 #[pv, qv, .agg #[.int .i64 7, .int .i64 n]] W fun r w' => (∃ t, r = .returned (.bool t) ∧ (x = y → t = true)) ∧ I2 w' := by
  go_enter Try.func25, Try.ntmps25
  go_wp2_with fail
  refine (unhide HU _ (unhide HI)).mono ?_
  rintro _ w1 ⟨rfl, hI⟩
  have HI := hide hI
  clear hI
  go_wp2_with fail
  refine (unhide HV _ (unhide HI)).mono ?_
  rintro _ w2 ⟨rfl, hI⟩
  have HI := hide hI
  clear hI
  go_wp2_with fail
  go_ret
  exact ⟨⟨_, rfl, fun h => by subst h; simp⟩, unhide HI⟩
set_option maxHeartbeats 1000000 in
set_option maxRecDepth 100000 in
theorem small_8 {pv qv : Value} {I0 I1 I2 : World → Prop} {n : Int} {x y : Int} {W : World} (HU : Ds 56 #[pv] I0 I1 (.int .i64 x)) (HV : Ds 57 #[qv] I1 I2 (.int .i64 y))
    (HI : Hid (I0 (W.alloc (.cells #[.int .i64 8, .int .i64 n] 31)))) :
    Calls Try.prog 25 #[pv, qv, .agg #[.int .i64 8, .int .i64 n]] W fun r w' => (∃ t, r = .returned (.bool t) ∧ (x = y → t = true)) ∧ I2 w' := by
  go_enter Try.func25, Try.ntmps25
  go_wp2_with fail
  refine (unhide HU _ (unhide HI)).mono ?_
  rintro _ w1 ⟨rfl, hI⟩
  have HI := hide hI
  clear hI
  go_wp2_with fail
  refine (unhide HV _ (unhide HI)).mono ?_
  rintro _ w2 ⟨rfl, hI⟩
  have HI := hide hI
  clear hI
  go_wp2_with fail
  go_ret
  exact ⟨⟨_, rfl, fun h => by subst h; simp⟩, unhide HI⟩
set_option maxHeartbeats 1000000 in
set_option maxRecDepth 100000 in
theorem small_9 {pv qv : Value} {I0 I1 I2 : World → Prop} {n : Int} {x y : Int} {W : World} (HU : Ds 41 #[pv] I0 I1 (.int .u8 x)) (HV : Ds 42 #[qv] I1 I2 (.int .u8 y))
    (HI : Hid (I0 (W.alloc (.cells #[.int .i64 9, .int .i64 n] 31)))) :
    Calls Try.prog 25 #[pv, qv, .agg #[.int .i64 9, .int .i64 n]] W fun r w' => (∃ t, r = .returned (.bool t) ∧ (x = y → t = true)) ∧ I2 w' := by
  go_enter Try.func25, Try.ntmps25
  go_wp2_with fail
  refine (unhide HU _ (unhide HI)).mono ?_
  rintro _ w1 ⟨rfl, hI⟩
  have HI := hide hI
  clear hI
  go_wp2_with fail
  refine (unhide HV _ (unhide HI)).mono ?_
  rintro _ w2 ⟨rfl, hI⟩
  have HI := hide hI
  clear hI
  go_wp2_with fail
  go_ret
  exact ⟨⟨_, rfl, fun h => by subst h; simp⟩, unhide HI⟩
set_option maxHeartbeats 1000000 in
set_option maxRecDepth 100000 in
theorem small_10 {pv qv : Value} {I0 I1 I2 : World → Prop} {n : Int} {x y : Int} {W : World} (HU : Ds 58 #[pv] I0 I1 (.int .u8 x)) (HV : Ds 59 #[qv] I1 I2 (.int .u8 y))
    (HI : Hid (I0 (W.alloc (.cells #[.int .i64 10, .int .i64 n] 31)))) :
    Calls Try.prog 25 #[pv, qv, .agg #[.int .i64 10, .int .i64 n]] W fun r w' => (∃ t, r = .returned (.bool t) ∧ (x = y → t = true)) ∧ I2 w' := by
  go_enter Try.func25, Try.ntmps25
  go_wp2_with fail
  refine (unhide HU _ (unhide HI)).mono ?_
  rintro _ w1 ⟨rfl, hI⟩
  have HI := hide hI
  clear hI
  go_wp2_with fail
  refine (unhide HV _ (unhide HI)).mono ?_
  rintro _ w2 ⟨rfl, hI⟩
  have HI := hide hI
  clear hI
  go_wp2_with fail
  go_ret
  exact ⟨⟨_, rfl, fun h => by subst h; simp⟩, unhide HI⟩
set_option maxHeartbeats 1000000 in
set_option maxRecDepth 100000 in
theorem small_5 {pv qv : Value} {I0 I1 I2 : World → Prop} {n : Int} {x y : Int} {W : World} (HU : Ds 50 #[pv, .int .i64 n] I0 I1 (.int .u64 x)) (HV : Ds 51 #[qv, .int .i64 n] I1 I2 (.int .u64 y))
    (HD : Hid (∀ w, I0 w → I0 w.drew)) (HB0 : Hid (∀ w, I0 w → w.cell? ⟨W.heap.size, 1, none⟩ = some (.int .i64 n))) (HB1 : Hid (∀ w, I1 w → w.cell? ⟨W.heap.size, 1, none⟩ = some (.int .i64 n))) (HB2 : Hid (∀ w, I2 w → w.cell? ⟨W.heap.size, 1, none⟩ = some (.int .i64 n)))
    (HI : Hid (I0 (W.alloc (.cells #[.int .i64 5, .int .i64 n] 31)))) :
    Calls Try.prog 25 #[pv, qv, .agg #[.int .i64 5, .int .i64 n]] W fun r w' => (∃ t, r = .returned (.bool t) ∧ (x = y → t = true)) ∧ I2 w' := by
  have HI := hide (unhide HD _ (unhide HI))
  go_enter Try.func25, Try.ntmps25
  go_wp2_with fail
  refine wp_region_held_drew (S := fun w' => w'.cell? ⟨W.heap.size, 1, none⟩ = some (.int .i64 n)) (by kernel_rfl) ?_ (fun hHeld => ?_)
  · (try dsimp only)
    exact unhide HB0 _ (unhide HI)
  refine lst0 10 (by kernel_rfl) ?_
  refine tkA 0 42 1 ?_
  refine tkA 1 43 3 ?_
  refine tkA 2 44 7 ?_
  refine tkA 4 46 23 ?_
  refine tkA 5 47 55 ?_
  refine tkA 6 48 119 ?_
  refine rdA 3 127 (fun Kk hKk => ?_)
  go_simp
  refine (unhide HU _ (unhide HI)).mono ?_
  rintro _ w1 ⟨rfl, hI⟩
  have HI := hide hI
  clear hI
  (try go_wp2_with fail)
  refine hKk.out _ _ ?_ (fun hHeld => ?_)
  · (try dsimp only)
    exact unhide HB1 _ (unhide HI)
  clear hKk Kk
  (try simp only [List.setIfInBounds_toArray, List.set_cons_zero, List.set_cons_succ])
  refine rdA 7 255 (fun Kk hKk => ?_)
  go_simp
  refine (unhide HV _ (unhide HI)).mono ?_
  rintro _ w2 ⟨rfl, hI⟩
  have HI := hide hI
  clear hI
  (try go_wp2_with fail)
  refine hKk.out _ _ ?_ (fun hHeld => ?_)
  · (try dsimp only)
    exact unhide HB2 _ (unhide HI)
  clear hKk Kk
  (try simp only [List.setIfInBounds_toArray, List.set_cons_zero, List.set_cons_succ])
  refine tkA 8 50 511 ?_
  refine tkA 9 6 1023 ?_
  refine wpAnyH_done (by kernel_rfl) ?_ _
  go_wp2_with fail
  go_ret
  exact ⟨⟨_, rfl, fun h => by subst h; simp⟩, unhide HI⟩
/-- How many bytes are asked for. -/
def clp (n : Int) : Nat := if n < 0 then 0 else if n ≤ 2147483648 then n.toNat else 2147483648
set_option maxHeartbeats 1000000 in
set_option maxRecDepth 100000 in
theorem small_6lo {pv qv : Value} {I0 I2 : World → Prop} {J : Option Addr → Nat → Nat → World → Prop} {n : Int} {zs us : List Int} {W : World} (hn : n < 0)
    (HU : Hid (∀ w, I0 w → Calls Try.prog 52 #[pv, .int .u32 0] w fun r w' => ∃ x1 x2 x3, r = .returned (.slice x1 x2 x3) ∧ J x1 x2 x3 w'))
    (HV : Hid (∀ x1 x2 x3 w, J x1 x2 x3 w → Calls Try.prog 53 #[qv, .int .u64 0] w fun r w' => ∃ y1 y2 y3, r = .returned (.slice y1 y2 y3) ∧ Sl w' x1 x2 x3 zs ∧ Sl w' y1 y2 y3 us ∧ I2 w'))
    (HJ : Hid (∀ x1 x2 x3 w, J x1 x2 x3 w → Sl w x1 x2 x3 zs))
    (HD : Hid (∀ w, I0 w → I0 w.drew)) (HI : Hid (I0 (W.alloc (.cells #[.int .i64 6, .int .i64 n] 31)))) :
    Calls Try.prog 25 #[pv, qv, .agg #[.int .i64 6, .int .i64 n]] W fun r w' => (∃ t, r = .returned (.bool t) ∧ (zs = us → t = true)) ∧ I2 w' := by
  have HI := hide (unhide HD _ (unhide HI))
  have g1 : ¬ 0 < n := by omega
  go_enter Try.func25, Try.ntmps25
  go_wp2_with fail
  refine wp_region_held_drew (S := fun w' => Free w') (by kernel_rfl) ?_ (fun hHeld => ?_)
  · (try dsimp only)
    exact free _
  refine lst0 11 (by kernel_rfl) ?_
  refine tkA 0 58 1 ?_
  refine tkA 1 59 3 ?_
  refine tkA 4 62 19 ?_
  refine tkA 5 63 51 ?_
  refine tkA 6 64 115 ?_
  refine rdA 2 119 (fun Kk hKk => ?_)
  go_simp
  refine (unhide HU _ (unhide HI)).mono ?_
  rintro _ w1 ⟨x1, x2, x3, rfl, hI⟩
  have HI := hide hI
  clear hI
  (try go_wp2_with fail)
  refine hKk.out _ _ ?_ (fun hHeld => ?_)
  · (try dsimp only)
    exact free _
  clear hKk Kk hHeld
  (try simp only [List.setIfInBounds_toArray, List.set_cons_zero, List.set_cons_succ])
  refine wpAnyH_more (S' := fun w => Sl w x1 x2 x3 zs) (fun _ _ => free _) _ _ _ _ ?_
  have hHeld : Sl w1 x1 x2 x3 zs := unhide HJ _ _ _ _ (unhide HI)
  refine tkA 3 61 127 ?_ (hy := by refine Or.inl ⟨by rfl, ?_⟩; ((intro w hSw; have hc := conv_run hSw; go_simp) <;> with_reducible rfl))
  refine rdA 7 255 (fun Kk hKk => ?_)
  go_simp
  refine (unhide HV _ _ _ _ (unhide HI)).mono ?_
  rintro _ w2 ⟨y1, y2, y3, rfl, hS1, hS2, hI⟩
  have HI := hide hI
  have HS1 := hide hS1
  have HS2 := hide hS2
  clear hI hS1 hS2
  (try go_wp2_with fail)
  refine hKk.out _ _ ?_ (fun _ => ?_)
  · (try dsimp only)
    exact unhide HS1
  clear hKk Kk hHeld
  (try simp only [List.setIfInBounds_toArray, List.set_cons_zero, List.set_cons_succ])
  refine wpAnyH_more (S' := fun w => Sl w x1 x2 x3 zs ∧ Sl w y1 y2 y3 us) (fun _ h => h.1) _ _ _ _ ?_
  have hHeld : Sl w2 x1 x2 x3 zs ∧ Sl w2 y1 y2 y3 us := ⟨unhide HS1, unhide HS2⟩
  refine tkA 8 66 511 ?_ (hy := by refine Or.inl ⟨by rfl, ?_⟩; ((intro w hSw; have hc := conv_run hSw.2; go_simp) <;> with_reducible rfl))
  refine tkA 9 67 1023 ?_
  refine tkA 10 6 2047 ?_
  refine wpAnyH_done (by kernel_rfl) ?_ _
  clear hHeld
  go_wp2_with fail
  go_ret
  exact ⟨⟨_, rfl, fun h => by subst h; simp⟩, unhide HI⟩
set_option maxHeartbeats 1000000 in
set_option maxRecDepth 100000 in
theorem small_6in {pv qv : Value} {I0 I2 : World → Prop} {J : Option Addr → Nat → Nat → World → Prop} {n : Int} {zs us : List Int} {W : World} (h0 : 0 ≤ n) (h1 : n ≤ 2147483648)
    (HU : Hid (∀ w, I0 w → Calls Try.prog 52 #[pv, .int .u32 n] w fun r w' => ∃ x1 x2 x3, r = .returned (.slice x1 x2 x3) ∧ J x1 x2 x3 w'))
    (HV : Hid (∀ x1 x2 x3 w, J x1 x2 x3 w → Calls Try.prog 53 #[qv, .int .u64 n] w fun r w' => ∃ y1 y2 y3, r = .returned (.slice y1 y2 y3) ∧ Sl w' x1 x2 x3 zs ∧ Sl w' y1 y2 y3 us ∧ I2 w'))
    (HJ : Hid (∀ x1 x2 x3 w, J x1 x2 x3 w → Sl w x1 x2 x3 zs))
    (HD : Hid (∀ w, I0 w → I0 w.drew)) (HI : Hid (I0 (W.alloc (.cells #[.int .i64 6, .int .i64 n] 31)))) :
    Calls Try.prog 25 #[pv, qv, .agg #[.int .i64 6, .int .i64 n]] W fun r w' => (∃ t, r = .returned (.bool t) ∧ (zs = us → t = true)) ∧ I2 w' := by
  have HI := hide (unhide HD _ (unhide HI))
  have h2 : n < 4294967296 := by omega
  have h3 : IntKind.u64.wrap n = n := u64_id (by omega) (by omega)
  go_enter Try.func25, Try.ntmps25
  go_wp2_with fail
  refine wp_region_held_drew (S := fun w' => Free w') (by kernel_rfl) ?_ (fun hHeld => ?_)
  · (try dsimp only)
    exact free _
  refine lst0 11 (by kernel_rfl) ?_
  refine tkA 0 58 1 ?_
  refine tkA 1 59 3 ?_
  refine tkA 4 62 19 ?_
  refine tkA 5 63 51 ?_
  refine tkA 6 64 115 ?_
  refine rdA 2 119 (fun Kk hKk => ?_)
  go_simp
  refine (unhide HU _ (unhide HI)).mono ?_
  rintro _ w1 ⟨x1, x2, x3, rfl, hI⟩
  have HI := hide hI
  clear hI
  (try go_wp2_with fail)
  refine hKk.out _ _ ?_ (fun hHeld => ?_)
  · (try dsimp only)
    exact free _
  clear hKk Kk hHeld
  (try simp only [List.setIfInBounds_toArray, List.set_cons_zero, List.set_cons_succ])
  refine wpAnyH_more (S' := fun w => Sl w x1 x2 x3 zs) (fun _ _ => free _) _ _ _ _ ?_
  have hHeld : Sl w1 x1 x2 x3 zs := unhide HJ _ _ _ _ (unhide HI)
  refine tkA 3 61 127 ?_ (hy := by refine Or.inl ⟨by rfl, ?_⟩; ((intro w hSw; have hc := conv_run hSw; go_simp) <;> with_reducible rfl))
  refine rdA 7 255 (fun Kk hKk => ?_)
  go_simp
  refine (unhide HV _ _ _ _ (unhide HI)).mono ?_
  rintro _ w2 ⟨y1, y2, y3, rfl, hS1, hS2, hI⟩
  have HI := hide hI
  have HS1 := hide hS1
  have HS2 := hide hS2
  clear hI hS1 hS2
  (try go_wp2_with fail)
  refine hKk.out _ _ ?_ (fun _ => ?_)
  · (try dsimp only)
    exact unhide HS1
  clear hKk Kk hHeld
  (try simp only [List.setIfInBounds_toArray, List.set_cons_zero, List.set_cons_succ])
  refine wpAnyH_more (S' := fun w => Sl w x1 x2 x3 zs ∧ Sl w y1 y2 y3 us) (fun _ h => h.1) _ _ _ _ ?_
  have hHeld : Sl w2 x1 x2 x3 zs ∧ Sl w2 y1 y2 y3 us := ⟨unhide HS1, unhide HS2⟩
  refine tkA 8 66 511 ?_ (hy := by refine Or.inl ⟨by rfl, ?_⟩; ((intro w hSw; have hc := conv_run hSw.2; go_simp) <;> with_reducible rfl))
  refine tkA 9 67 1023 ?_
  refine tkA 10 6 2047 ?_
  refine wpAnyH_done (by kernel_rfl) ?_ _
  clear hHeld
  go_wp2_with fail
  go_ret
  exact ⟨⟨_, rfl, fun h => by subst h; simp⟩, unhide HI⟩
set_option maxHeartbeats 1000000 in
set_option maxRecDepth 100000 in
theorem small_6hi {pv qv : Value} {I0 I2 : World → Prop} {J : Option Addr → Nat → Nat → World → Prop} {n : Int} {zs us : List Int} {W : World} (hn : 2147483648 < n)
    (HU : Hid (∀ w, I0 w → Calls Try.prog 52 #[pv, .int .u32 2147483648] w fun r w' => ∃ x1 x2 x3, r = .returned (.slice x1 x2 x3) ∧ J x1 x2 x3 w'))
    (HV : Hid (∀ x1 x2 x3 w, J x1 x2 x3 w → Calls Try.prog 53 #[qv, .int .u64 2147483648] w fun r w' => ∃ y1 y2 y3, r = .returned (.slice y1 y2 y3) ∧ Sl w' x1 x2 x3 zs ∧ Sl w' y1 y2 y3 us ∧ I2 w'))
    (HJ : Hid (∀ x1 x2 x3 w, J x1 x2 x3 w → Sl w x1 x2 x3 zs))
    (HD : Hid (∀ w, I0 w → I0 w.drew)) (HI : Hid (I0 (W.alloc (.cells #[.int .i64 6, .int .i64 n] 31)))) :
    Calls Try.prog 25 #[pv, qv, .agg #[.int .i64 6, .int .i64 n]] W fun r w' => (∃ t, r = .returned (.bool t) ∧ (zs = us → t = true)) ∧ I2 w' := by
  have HI := hide (unhide HD _ (unhide HI))
  go_enter Try.func25, Try.ntmps25
  go_wp2_with fail
  refine wp_region_held_drew (S := fun w' => Free w') (by kernel_rfl) ?_ (fun hHeld => ?_)
  · (try dsimp only)
    exact free _
  refine lst0 11 (by kernel_rfl) ?_
  refine tkA 0 58 1 ?_
  refine tkA 1 59 3 ?_
  refine tkA 4 62 19 ?_
  refine tkA 5 63 51 ?_
  refine tkA 6 64 115 ?_
  refine rdA 2 119 (fun Kk hKk => ?_)
  go_simp
  refine (unhide HU _ (unhide HI)).mono ?_
  rintro _ w1 ⟨x1, x2, x3, rfl, hI⟩
  have HI := hide hI
  clear hI
  (try go_wp2_with fail)
  refine hKk.out _ _ ?_ (fun hHeld => ?_)
  · (try dsimp only)
    exact free _
  clear hKk Kk hHeld
  (try simp only [List.setIfInBounds_toArray, List.set_cons_zero, List.set_cons_succ])
  refine wpAnyH_more (S' := fun w => Sl w x1 x2 x3 zs) (fun _ _ => free _) _ _ _ _ ?_
  have hHeld : Sl w1 x1 x2 x3 zs := unhide HJ _ _ _ _ (unhide HI)
  refine tkA 3 61 127 ?_ (hy := by refine Or.inl ⟨by rfl, ?_⟩; ((intro w hSw; have hc := conv_run hSw; go_simp) <;> with_reducible rfl))
  refine rdA 7 255 (fun Kk hKk => ?_)
  go_simp
  refine (unhide HV _ _ _ _ (unhide HI)).mono ?_
  rintro _ w2 ⟨y1, y2, y3, rfl, hS1, hS2, hI⟩
  have HI := hide hI
  have HS1 := hide hS1
  have HS2 := hide hS2
  clear hI hS1 hS2
  (try go_wp2_with fail)
  refine hKk.out _ _ ?_ (fun _ => ?_)
  · (try dsimp only)
    exact unhide HS1
  clear hKk Kk hHeld
  (try simp only [List.setIfInBounds_toArray, List.set_cons_zero, List.set_cons_succ])
  refine wpAnyH_more (S' := fun w => Sl w x1 x2 x3 zs ∧ Sl w y1 y2 y3 us) (fun _ h => h.1) _ _ _ _ ?_
  have hHeld : Sl w2 x1 x2 x3 zs ∧ Sl w2 y1 y2 y3 us := ⟨unhide HS1, unhide HS2⟩
  refine tkA 8 66 511 ?_ (hy := by refine Or.inl ⟨by rfl, ?_⟩; ((intro w hSw; have hc := conv_run hSw.2; go_simp) <;> with_reducible rfl))
  refine tkA 9 67 1023 ?_
  refine tkA 10 6 2047 ?_
  refine wpAnyH_done (by kernel_rfl) ?_ _
  clear hHeld
  go_wp2_with fail
  go_ret
  exact ⟨⟨_, rfl, fun h => by subst h; simp⟩, unhide HI⟩
end Go.Proofs.Ytphgljhlamjmgaa
