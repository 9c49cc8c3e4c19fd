/- Package product's All, over any list; the statements' own test of the chapter's examples. -/
import Derived.Test.YtlkmongiknpejaaProdC
import Derived.Test.YtlkmongiknpejaaTotal
import Derived.LoopTactic
namespace Go.Proofs.Ytlkmongiknpejaa
open Go.RowKit
open Go.Proofs.Ytlkmongiknpejaa.W

/-- One by one, from a first one on. -/
def prods (A : Int → Int → Int) (o : Int) (zs : List Int) : Int := zs.foldl A o
theorem prods_step (A : Int → Int → Int) (o : Int) (zs : List Int) (k : Nat) (hk : k < zs.length) : prods A o (zs.take (k + 1)) = A (prods A o (zs.take k)) (zs.getD k 0) := by
  unfold prods
  rw [List.take_add_one, List.foldl_append]
  simp [List.getD, List.getElem?_eq_getElem hk]
theorem prods_wrd {A : Int → Int → Int} (hA : ∀ s z, Wrd s → Wrd z → Wrd (A s z)) {o : Int} (ho : Wrd o) {zs : List Int} (hz : ∀ z ∈ zs, Wrd z) (k : Nat) : Wrd (prods A o (zs.take k)) := by
  have : ∀ (l : List Int) (s : Int), Wrd s → (∀ z ∈ l, Wrd z) → Wrd (l.foldl A s) := by
    intro l
    induction l with
    | nil => exact fun s hs _ => hs
    | cons x xs ih => exact fun s hs h => ih _ (hA s x hs (h x (by simp))) (fun z hz => h z (by simp [hz]))
  exact this _ o ho (fun z hm => hz z (List.mem_of_mem_take hm))

set_option maxRecDepth 100000 in
set_option maxHeartbeats 2000000 in
theorem all_l {w o : Int} {A : Int → Int → Int} (a : Option Addr) (len cap : Nat) (zs : List Int) (W : World) (hr : Rd W a len zs) (hbig : len ≤ 1000) (hz : ∀ z ∈ zs, Wrd z) (ho : Wrd o) (hA : ∀ s z, Wrd s → Wrd z → Wrd (A s z))
    (HZ : Hid (∀ W, Calls Try.prog 30 #[.int .i64 w, .bool false, .int .u64 1] W fun r W' => r = .returned (.int .u64 o) ∧ Below W.heap.size W W'))
    (HA : Hid (∀ s z, Wrd s → Wrd z → ∀ W, Calls Try.prog 8 #[.int .i64 w, .int .u64 s, .int .u64 z] W fun r W' => r = .returned (.int .u64 (A s z)) ∧ Below W.heap.size W W')) :
    Calls Try.prog 11 #[.int .i64 w, .slice a len cap] W fun r W' => r = .returned (.int .u64 (prods A o zs)) ∧ Below W.heap.size W W' := by
  have HR := hide hr
  have HW := hide (fun k => prods_wrd hA ho hz k)
  have Hz := hide hz
  clear hr hA hz ho
  go_enter Try.func11, Try.ntmps11
  go_wp2_with fail
  refine (unhide HZ _).mono ?_
  rintro _ w1 ⟨rfl, hb1⟩
  go_wp2_with fail
  go_loopw [5, 12] (fun t i wr => ∃ k : Nat, k ≤ len ∧ i = .int .i64 k ∧ t = .int .u64 (prods A o (zs.take k)) ∧ Below W.heap.size W wr) (fun _ i _ => len - (intOf i).toNat)
  case atStart => exact ⟨0, by omega, rfl, rfl, hb1⟩
  case round =>
    obtain ⟨k, hk, rfl, rfl, hb⟩ := hrel
    by_cases hl : k < len
    · obtain ⟨b, off, rfl, hc⟩ := ((unhide HR).below hb).2 k hl
      have HS := hide (prods_step A o zs k (by have := (unhide HR).1; omega))
      have HX := unhide HA _ _ (unhide HW k) (unhide Hz (zs.getD k 0) (by
        have := (unhide HR).1
        rw [List.getD_eq_getElem?_getD, List.getElem?_eq_getElem (show k < zs.length by omega)]
        exact List.getElem_mem _))
      have HX := hide HX
      generalize prods A o (zs.take k) = s at *
      generalize zs.getD k 0 = z at *
      have hli : (k : Int) < (len : Int) := by omega
      go_wp2_with fail
      refine (unhide HX _).mono ?_
      rintro _ w2 ⟨rfl, hb2⟩
      go_wp2_with fail
      go_roundw
      case rel => exact ⟨k + 1, by omega, by go_num, by rw [unhide HS], bthen hb hb2⟩
      case measure => simp [intOf]; omega
    · have hli : ¬ (k : Int) < (len : Int) := by omega
      have HE : Hid (prods A o (zs.take k) = prods A o zs) := by
        have := (unhide HR).1
        unfold Hid
        rw [List.take_of_length_le (by omega)]
      go_wp2_with fail
      go_ret
      exact ⟨ret1 (unhide HE), hb⟩
theorem mul_wrd {w e f P Q b : Int} (k : Kd w e f P Q b) : ∀ s z, Wrd s → Wrd z → Wrd (mulB f P Q b s z) := fun s z _ _ => mul_bits k s z
theorem one_wrd {w e f P Q b : Int} (k : Kd w e f P Q b) : Wrd (put f P Q false b 0) := by
  obtain ⟨r0, r1, -⟩ := pow_open (j := 0) k (by omega) (by omega)
  rw [Int.add_zero] at r0 r1
  exact ⟨r0, r1⟩
theorem all_any {w e f P Q b : Int} (k : Kd w e f P Q b) (a : Option Addr) (len cap : Nat) (zs : List Int) (W : World) (hr : Rd W a len zs) (hbig : len ≤ 1000) (hz : ∀ z ∈ zs, Wrd z) :
    Calls Try.prog 11 #[.int .i64 w, .slice a len cap] W fun r W' => r = .returned (.int .u64 (prods (mulB f P Q b) (put f P Q false b 0) zs)) ∧ Below W.heap.size W W' :=
  all_l a len cap zs W hr hbig hz (one_wrd k) (mul_wrd k) (hide (fun W => whole_one k W)) (hide (fun _ _ hs hz W => mul_any' k W hs.1 hs.2 hz.1 hz.2))
theorem all_none {w e f P Q b : Int} (k : Kd w e f P Q b) (W : World) :
    Calls Try.prog 11 #[.int .i64 w, .slice none 0 0] W fun r W' => r = .returned (.int .u64 (put f P Q false b 0)) ∧ Below W.heap.size W W' :=
  all_any k none 0 0 [] W ⟨rfl, fun j hj => absurd hj (by omega)⟩ (by omega) (fun z hz => by simp at hz)

set_option maxRecDepth 100000 in
set_option maxHeartbeats 2000000 in
theorem awake_l (W : World) (HA : Hid (∀ W, Calls Try.prog 8 #[.int .i64 32, .int .u64 1077936128, .int .u64 1084227584] W fun r W' => r = .returned (.int .u64 1097859072) ∧ Below W.heap.size W W')) (HS : Hid (∀ W, Calls Try.prog 8 #[.int .i64 32, .int .u64 1, .int .u64 1056964608] W fun r W' => r = .returned (.int .u64 0) ∧ Below W.heap.size W W')) (HO : Hid (∀ W, Calls Try.prog 11 #[.int .i64 64, .slice none 0 0] W fun r W' => r = .returned (.int .u64 4607182418800017408) ∧ Below W.heap.size W W')) :
    Calls Try.prog 7 #[] W fun r W' => r = .returned (.bool true) ∧ Below W.heap.size W W' := by
  go_enter Try.func7, Try.ntmps7
  go_wp2_with fail
  refine (unhide HA _).mono ?_
  rintro _ w1 ⟨rfl, hb⟩
  have HB := hide hb
  clear hb
  go_wp2_with fail
  refine (unhide HS _).mono ?_
  rintro _ w2 ⟨rfl, hb⟩
  have HB := hide (bthen (unhide HB) hb)
  clear hb
  go_wp2_with fail
  refine (unhide HO _).mono ?_
  rintro _ w3 ⟨rfl, hb⟩
  have HB := hide (bthen (unhide HB) hb)
  clear hb
  go_wp2_with fail
  go_ret
  exact ⟨rfl, unhide HB⟩
theorem kd_32s : Kd 32 8 23 8388608 256 127 := Or.inl ⟨rfl, rfl, rfl, rfl, rfl, rfl⟩
theorem kd_64s : Kd 64 11 52 4503599627370496 2048 1023 := Or.inr ⟨rfl, rfl, rfl, rfl, rfl, rfl⟩
theorem prod_a : mulB 23 8388608 256 127 1077936128 1084227584 = 1097859072 := by decide +kernel
theorem prod_b : mulB 23 8388608 256 127 1 1056964608 = 0 := by decide +kernel
theorem prod_c : put 52 4503599627370496 2048 false 1023 0 = 4607182418800017408 := by decide +kernel
theorem awake_any (W : World) : Calls Try.prog 7 #[] W fun r W' => r = .returned (.bool true) ∧ Below W.heap.size W W' := by
  have h1 := fun W => mul_any' (x := 1077936128) (y := 1084227584) kd_32s W (by omega) (by omega) (by omega) (by omega)
  have h2 := fun W => mul_any' (x := 1) (y := 1056964608) kd_32s W (by omega) (by omega) (by omega) (by omega)
  have h3 := fun W => all_none kd_64s W
  rw [prod_a] at h1
  rw [prod_b] at h2
  rw [prod_c] at h3
  exact awake_l W (hide h1) (hide h2) (hide h3)

end Go.Proofs.Ytlkmongiknpejaa
