/- The reference's By. -/
import Derived.Test.YtkpdanjfdcoldaaRdC
import Derived.Test.YtkpdanjfdcoldaaOpJ
namespace Go.Proofs.Ytkpdanjfdcoldaa
open Go.RowKit

theorem bthen' {B : Nat} {a b c : World} (h : Below B a b) (k : Below b.heap.size b c) (hB : B ≤ a.heap.size := by simp) : Below B a c := h.trans (k.mono (Nat.le_trans hB h.size))
/-- What the reference's By answers. -/
def RbR (s : List UInt8) (r : Int) : Prop :=
  (s = [] ∧ r = -1) ∨ (s ≠ [] ∧ ((∃ i : Nat, i < 192 ∧ r = (i : Int) ∧ nm (i : Int) = s ∧ ∀ j : Nat, j < i → nm (j : Int) ≠ s) ∨ ((∀ j : Nat, j < 192 → nm (j : Int) ≠ s) ∧
    ((∃ i : Nat, i < 8 ∧ r = ((64512 + i : Nat) : Int) ∧ nm ((64512 + i : Nat) : Int) = s ∧ ∀ j : Nat, j < i → nm ((64512 + j : Nat) : Int) ≠ s) ∨ (r = -1 ∧ ∀ j : Nat, j < 8 → nm ((64512 + j : Nat) : Int) ≠ s)))))
def RbE (s : List UInt8) (e : Ending) : Prop := ∃ r, e = .returned (.int .i64 r) ∧ RbR s r
def up192 : Value → Nat
  | .int _ i => 64600 - i.toNat
  | _ => 0
set_option maxHeartbeats 8000000 in
set_option maxRecDepth 100000 in
theorem rby_s (NM : Nat → List UInt8) (HM : Hid (∀ k, NM k = nm (k : Int))) (HN : Hid (∀ (k : Nat) (W : World), Calls Try.prog 11 #[.int .i64 (k : Int)] W fun e W' => e = .returned (.string (bs (NM k))) ∧ Below W.heap.size W W')) (s : List UInt8) (W : World) :
    Calls Try.prog 6 #[.string (bs s)] W fun e W' => RbE s e ∧ Below W.heap.size W W' := by
  by_cases hs : s = []
  · have he : (bs s).toList.isEmpty = true := by simp [hs, bs, Lib.toList_data]
    have hs' := hide hs
    clear hs
    go_enter Try.func6, Try.ntmps6
    go_wp2_with fail
    go_ret
    exact ⟨⟨-1, rfl, .inl ⟨unhide hs', rfl⟩⟩, Below.refl _ _⟩
  have he : (bs s).toList.isEmpty = false := by simp [bs, Lib.toList_data, hs]
  have hs' := hide hs
  clear hs
  go_enter Try.func6, Try.ntmps6
  go_wp2_with fail
  go_loopw [3] (fun v wr => ∃ i : Nat, i ≤ 192 ∧ v = .int .i64 (i : Int) ∧ (∀ j : Nat, j < i → NM j ≠ s) ∧ Below W.heap.size W wr) (fun v _ => up192 v)
  case atStart => exact ⟨0, by omega, rfl, fun j h => absurd h (by omega), Below.refl _ _⟩
  case round =>
    obtain ⟨i, hi, rfl, hno, hb⟩ := hrel
    have HO := hide hno
    clear hno
    by_cases hc : i < 192
    · have hc' : (i : Int) < 192 := by omega
      have ei : IntKind.i64.wrap ((i : Int) + 1) = ((i + 1 : Nat) : Int) := by rw [i64_id (by omega) (by omega)]; simp
      by_cases hx : NM i = s
      · have hx' : ((bs (NM i)).toList == (bs s).toList) = true := by simp [hx]
        have HX := hide hx
        clear hx
        go_wp2_with (go_at_call 11; refine ((unhide HN) i _).mono ?_; rintro _ w2 ⟨rfl, hb2⟩)
        go_ret
        exact ⟨⟨(i : Int), rfl, .inr ⟨unhide hs', .inl ⟨i, hc, rfl, (unhide HM i).symm.trans (unhide HX), fun j hj => by rw [← unhide HM j]; exact unhide HO j hj⟩⟩⟩, bthen' hb hb2⟩
      · have hx' : ((bs (NM i)).toList == (bs s).toList) = false := by simp [bs, Lib.toList_data, hx]
        have HX := hide hx
        clear hx
        go_wp2_with (go_at_call 11; refine ((unhide HN) i _).mono ?_; rintro _ w2 ⟨rfl, hb2⟩)
        go_roundw
        case rel => exact ⟨i + 1, by omega, by simp, fun j hj => (by
          by_cases hji : j = i
          · subst hji; exact unhide HX
          · exact unhide HO j (by omega)), bthen' hb hb2⟩
        case measure => simp [up192]; omega
    · obtain rfl : i = 192 := by omega
      have hc' : ¬ (((192 : Nat) : Int) < 192) := by omega
      go_wp2_with fail
      go_loopw [4] (fun v wr => ∃ i : Nat, i ≤ 8 ∧ v = .int .i64 ((64512 + i : Nat) : Int) ∧ (∀ j : Nat, j < i → NM (64512 + j) ≠ s) ∧ Below W.heap.size W wr) (fun v _ => up192 v)
      case atStart => exact ⟨0, by omega, rfl, fun j h => absurd h (by omega), hb⟩
      case round =>
        obtain ⟨i, hi, rfl, hno, hb3⟩ := hrel
        have HP := hide hno
        clear hno
        by_cases hc : i < 8
        · obtain ⟨m, hm⟩ : ∃ m : Nat, 64512 + i = m := ⟨_, rfl⟩
          rw [hm]
          have hc2 : (m : Int) < 64520 := by omega
          have ei : IntKind.i64.wrap ((m : Int) + 1) = ((m + 1 : Nat) : Int) := by rw [i64_id (by omega) (by omega)]; simp
          have Hm := hide hm
          clear hm
          by_cases hx : NM m = s
          · have hx' : ((bs (NM m)).toList == (bs s).toList) = true := by simp [hx]
            have HX := hide hx
            clear hx
            go_wp2_with (go_at_call 11; refine ((unhide HN) m _).mono ?_; rintro _ w2 ⟨rfl, hb2⟩)
            go_ret
            exact ⟨⟨(m : Int), rfl, .inr ⟨unhide hs', .inr ⟨fun j hj => by rw [← unhide HM j]; exact unhide HO j hj, .inl ⟨i, hc, by rw [unhide Hm], by rw [unhide Hm]; exact (unhide HM m).symm.trans (unhide HX), fun j hj => by rw [← unhide HM]; exact unhide HP j hj⟩⟩⟩⟩, bthen' hb3 hb2⟩
          · have hx' : ((bs (NM m)).toList == (bs s).toList) = false := by simp [bs, Lib.toList_data, hx]
            have HX := hide hx
            clear hx
            go_wp2_with (go_at_call 11; refine ((unhide HN) m _).mono ?_; rintro _ w2 ⟨rfl, hb2⟩)
            go_roundw
            case rel => exact ⟨i + 1, by omega, by rw [← unhide Hm]; simp; omega, fun j hj => (by
              by_cases hji : j = i
              · subst hji; rw [unhide Hm]; exact unhide HX
              · exact unhide HP j (by omega)), bthen' hb3 hb2⟩
            case measure => simp [up192]; have := unhide Hm; omega
        · obtain rfl : i = 8 := by omega
          have hc2 : ¬ (((64512 + 8 : Nat) : Int) < 64520) := by omega
          go_wp2_with fail
          go_ret
          exact ⟨⟨-1, rfl, .inr ⟨unhide hs', .inr ⟨fun j hj => by rw [← unhide HM j]; exact unhide HO j hj, .inr ⟨rfl, fun j hj => by rw [← unhide HM]; exact unhide HP j hj⟩⟩⟩⟩, hb3⟩

end Go.Proofs.Ytkpdanjfdcoldaa
