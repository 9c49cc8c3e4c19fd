/- Package sum's Total, and the statement SumTotals: their walks, over any list. -/
import Derived.Test.YticbhdgamblmbaaAdds
import Derived.LoopTactic
namespace Go.Proofs.Yticbhdgamblmbaa
open Go.RowKit

/-- One by one. -/
def sums (A : Int → Int → Int) (zs : List Int) : Int := zs.foldl A 0
theorem sums_step (A : Int → Int → Int) (zs : List Int) (k : Nat) (hk : k < zs.length) : sums A (zs.take (k + 1)) = A (sums A (zs.take k)) (zs.getD k 0) := by
  unfold sums
  rw [List.take_add_one, List.foldl_append]
  simp [List.getD, List.getElem?_eq_getElem hk]
/-- A word. -/
def Wrd (x : Int) : Prop := 0 ≤ x ∧ x < 18446744073709551616
theorem sums_wrd {A : Int → Int → Int} (hA : ∀ s z, Wrd s → Wrd z → Wrd (A s z)) {zs : List Int} (hz : ∀ z ∈ zs, Wrd z) (k : Nat) : Wrd (sums A (zs.take k)) := by
  have : ∀ (l : List Int) (s : Int), Wrd s → (∀ z ∈ l, Wrd z) → Wrd (l.foldl A s) := by
    intro l
    induction l with
    | nil => exact fun s hs _ => hs
    | cons x xs ih => exact fun s hs h => ih _ (hA s x hs (h x (by simp))) (fun z hz => h z (by simp [hz]))
  exact this _ 0 ⟨by omega, by omega⟩ (fun z hm => hz z (List.mem_of_mem_take hm))
/-- The numbers of a list that came in. -/
def Rd (W : World) (a : Option Addr) (len : Nat) (zs : List Int) : Prop := len = zs.length ∧ ∀ j, j < len → ∃ b off, a = some ⟨b, off, none⟩ ∧ W.cell? ⟨b, off + j, none⟩ = some (.int .u64 (zs.getD j 0))
theorem Rd.below {W W' : World} {a : Option Addr} {len : Nat} {zs : List Int} (h : Rd W a len zs) (hb : Below W.heap.size W W') : Rd W' a len zs :=
  ⟨h.1, fun j hj => by
    obtain ⟨b, off, ha, hc⟩ := h.2 j hj
    exact ⟨b, off, ha, keep1 hb (lt_of_cell hc) hc⟩⟩

set_option maxRecDepth 100000 in
set_option maxHeartbeats 2000000 in
theorem total_l {w : Int} {A : Int → Int → Int} (a : Option Addr) (len cap : Nat) (zs : List Int) (W : World) (hr : Rd W a len zs) (hbig : len ≤ 1000) (hz : ∀ z ∈ zs, Wrd z) (hA : ∀ s z, Wrd s → Wrd z → Wrd (A s z))
    (HZ : Hid (∀ W, Calls Try.prog 19 #[.int .i64 w, .bool false] W fun r W' => r = .returned (.int .u64 0) ∧ Below W.heap.size W W'))
    (HA : Hid (∀ s z, Wrd s → Wrd z → ∀ W, Calls Try.prog 9 #[.int .i64 w, .int .u64 s, .int .u64 z] W fun r W' => r = .returned (.int .u64 (A s z)) ∧ Below W.heap.size W W')) :
    Calls Try.prog 14 #[.int .i64 w, .slice a len cap] W fun r W' => r = .returned (.int .u64 (sums A zs)) ∧ Below W.heap.size W W' := by
  have HR := hide hr
  have HW := hide (fun k => sums_wrd hA hz k)
  have Hz := hide hz
  clear hr hA hz
  go_enter Try.func14, Try.ntmps14
  go_wp2_with fail
  refine (unhide HZ _).mono ?_
  rintro _ w1 ⟨rfl, hb1⟩
  go_wp2_with fail
  go_loopw [5, 12] (fun t i wr => ∃ k : Nat, k ≤ len ∧ i = .int .i64 k ∧ t = .int .u64 (sums A (zs.take k)) ∧ Below W.heap.size W wr) (fun _ i _ => len - (intOf i).toNat)
  case atStart => exact ⟨0, by omega, rfl, rfl, hb1⟩
  case round =>
    obtain ⟨k, hk, rfl, rfl, hb⟩ := hrel
    by_cases hl : k < len
    · obtain ⟨b, off, rfl, hc⟩ := ((unhide HR).below hb).2 k hl
      have HS := hide (sums_step A zs k (by have := (unhide HR).1; omega))
      have HX := unhide HA _ _ (unhide HW k) (unhide Hz (zs.getD k 0) (by
        have := (unhide HR).1
        rw [List.getD_eq_getElem?_getD, List.getElem?_eq_getElem (show k < zs.length by omega)]
        exact List.getElem_mem _))
      have HX := hide HX
      generalize sums A (zs.take k) = s at *
      generalize zs.getD k 0 = z at *
      have hli : (k : Int) < (len : Int) := by omega
      go_wp2_with fail
      refine (unhide HX _).mono ?_
      rintro _ w2 ⟨rfl, hb2⟩
      go_wp2_with fail
      go_roundw
      case rel => exact ⟨k + 1, by omega, by go_num, by rw [unhide HS], bthen hb hb2⟩
      case measure => simp [intOf]; omega
    · have hli : ¬ (k : Int) < (len : Int) := by omega
      have HE : Hid (sums A (zs.take k) = sums A zs) := by
        have := (unhide HR).1
        unfold Hid
        rw [List.take_of_length_le (by omega)]
      go_wp2_with fail
      go_ret
      exact ⟨ret1 (unhide HE), hb⟩

end Go.Proofs.Yticbhdgamblmbaa
