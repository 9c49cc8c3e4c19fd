/- Uint and Sint of any bytes; awake. -/
import Derived.Test.YtbmkhhkklglomaaLbU
import Derived.Test.YtbmkhhkklglomaaLbS
import Derived.Test.YtbmkhhkklglomaaLbR
namespace Go.Proofs.Ytbmkhhkklglomaa
open Go.RowKit

theorem uint_any {a : Option Addr} {len cap k bits : Nat} {xs : List Int} {W : World} (HX : Hid (Byt xs)) (HS : Hid (Sl W a len cap xs)) (hk : k ≤ len) (b0 : 1 ≤ bits) (b1 : bits ≤ 64) :
    Calls Try.prog 8 #[.slice a len cap, .int .i64 (k : Int), .int .i64 (bits : Int)] W fun r W' => r = .returned (outT k (rd VU okU (xs.drop k) bits)) ∧ Below W.heap.size W W' := by
  refine uint_w ?_
  by_cases h : k = len
  · subst h
    exact readU_end HS b0 b1
  · exact readU_in (hide fun c n h1 _ h3 => lastU h1 h3) HX HS (by omega) b0 b1
theorem sint_any {a : Option Addr} {len cap k bits : Nat} {xs : List Int} {W : World} (HX : Hid (Byt xs)) (HS : Hid (Sl W a len cap xs)) (hk : k ≤ len) (b0 : 1 ≤ bits) (b1 : bits ≤ 64) :
    Calls Try.prog 9 #[.slice a len cap, .int .i64 (k : Int), .int .i64 (bits : Int)] W fun r W' => r = .returned (outT k (rd VS okS (xs.drop k) bits)) ∧ Below W.heap.size W W' := by
  refine sint_w ?_
  by_cases h : k = len
  · subst h
    exact readS_end HS b0 b1
  · exact readS_in (hide fun c n h1 h2 h3 => lastS h1 h2 h3) HX HS (by omega) b0 b1
theorem uint_no {a : Option Addr} {len cap : Nat} {k bits : Int} {W : World} (h : bits < 1 ∨ 64 < bits ∨ k < 0 ∨ (len : Int) < k) :
    Calls Try.prog 8 #[.slice a len cap, .int .i64 k, .int .i64 bits] W fun r W' => r = .returned (.tuple #[.int .u64 0, .int .i64 0, .int .i64 2]) ∧ Below W.heap.size W W' := uint_w (readU_no h)
theorem sint_no {a : Option Addr} {len cap : Nat} {k bits : Int} {W : World} (h : bits < 1 ∨ 64 < bits ∨ k < 0 ∨ (len : Int) < k) :
    Calls Try.prog 9 #[.slice a len cap, .int .i64 k, .int .i64 bits] W fun r W' => r = .returned (.tuple #[.int .u64 0, .int .i64 0, .int .i64 2]) ∧ Below W.heap.size W W' := sint_w (readS_no h)
theorem sl_lit (w : World) (xs : List Int) (n : Nat) (h : xs.length = n) (hn : n ≤ 1000) : Sl (w.alloc (.cells (bys xs).toArray 5)) (some ⟨w.heap.size, 0, none⟩) n n xs := by
  refine ⟨h, Nat.le_refl _, by omega, Or.inr ⟨w.heap.size, 0, rfl, fun j hj => ?_⟩⟩
  rw [Nat.zero_add, cell_of_row _ _ _ _ _ _ (heap_alloc_new w _)]
  rw [List.getElem?_toArray, bys_at xs j (by omega)]
theorem lit_U (b : Nat) (W : World) (hS : Sl W (some ⟨b, 0, none⟩) 3 3 [229, 142, 38]) :
    Calls Try.prog 8 #[.slice (some ⟨b, 0, none⟩) 3 3, .int .i64 0, .int .i64 32] W fun r W' => r = .returned (.tuple #[.int .u64 624485, .int .i64 3, .int .i64 0]) ∧ Below W.heap.size W W' := by
  have h := uint_any (k := 0) (bits := 32) (hide (show Byt [229, 142, 38] by intro x hx; simp at hx; omega)) (hide hS) (by omega) (by omega) (by omega)
  rw [show outT 0 (rd VU okU (List.drop 0 [229, 142, 38]) 32) = .tuple #[.int .u64 624485, .int .i64 3, .int .i64 0] by rfl] at h
  exact h
theorem lit_S (b : Nat) (W : World) (hS : Sl W (some ⟨b, 0, none⟩) 2 2 [128, 127]) :
    Calls Try.prog 9 #[.slice (some ⟨b, 0, none⟩) 2 2, .int .i64 0, .int .i64 32] W fun r W' => r = .returned (.tuple #[.int .u64 18446744073709551488, .int .i64 2, .int .i64 0]) ∧ Below W.heap.size W W' := by
  have h := sint_any (k := 0) (bits := 32) (hide (show Byt [128, 127] by intro x hx; simp at hx; omega)) (hide hS) (by omega) (by omega) (by omega)
  rw [show outT 0 (rd VS okS (List.drop 0 [128, 127]) 32) = .tuple #[.int .u64 18446744073709551488, .int .i64 2, .int .i64 0] by rfl] at h
  exact h
set_option maxHeartbeats 1000000 in
set_option maxRecDepth 100000 in
theorem awake_any : Ct 7 #[] (.bool true) := by
  refine hide (fun W => ?_)
  have H1 := hide lit_U
  have H2 := hide lit_S
  have H3 := putUint_any 300 (by omega)
  have e3 : putU 300 = [172, 2] := by rw [putU_more (by omega), putU_last (by omega)]; rfl
  rw [e3] at H3
  have H3 : Puts 12 300 [172, 2] := H3
  clear e3
  go_enter Try.func7, Try.ntmps7
  go_wp2_with fail
  refine (unhide H1 _ _ (sl_lit W [229, 142, 38] 3 rfl (by omega))).mono ?_
  rintro _ w1 ⟨rfl, hb1⟩
  have HB := hide (bthen (below1 _ _) hb1)
  clear hb1
  go_wp2_with fail
  refine (unhide H2 _ _ (sl_lit w1 [128, 127] 2 rfl (by omega))).mono ?_
  rintro _ w2 ⟨rfl, hb2⟩
  have HB := hide (bthen (balloc (unhide HB) _) hb2)
  clear hb2
  go_wp2_with fail
  refine (unhide H3 _).mono ?_
  rintro _ w3 ⟨v, rfl, hO, hb3⟩
  have HB := hide (bthen (unhide HB) hb3)
  obtain ⟨g, cap, rfl⟩ := form_one hO (by simp)
  clear hb3 hO
  go_wp2_with fail
  go_ret
  exact ⟨by first | rfl | simp, unhide HB⟩
end Go.Proofs.Ytbmkhhkklglomaa
