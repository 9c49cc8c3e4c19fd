/- OpcodeTells. -/
import Derived.Test.YtkpdanjfdcoldaaDoorOpM
import Derived.Test.YtkpdanjfdcoldaaDoorAcA
import Derived.Test.YtkpdanjfdcoldaaDoorImA
namespace Go.Proofs.YtkpdanjfdcoldaaDoor
open Go.RowKit

/-- What is asked of the two answers of Imm. -/
def Both (x : Int) (t : Bool) (r : Int) : Prop := (0 ≤ r ∧ x = r ∧ t = true) ∨ (r = -1 ∧ x = 0 ∧ t = false)
set_option maxHeartbeats 8000000 in
set_option maxRecDepth 100000 in
theorem tells_s (op x r ty m : Int) (t is sg st : Bool) (nmo : ByteArray) (HI : Cm 6 #[.int .i64 op] (.tuple #[.int .i64 x, .bool t])) (HR : Ct 7 #[.int .i64 op] (.int .i64 r)) (HT : Both x t r)
    (HN : Ct 8 #[.int .i64 op] (.string nmo)) (HO : Ct 9 #[.int .i64 op] (.string nmo)) (HX : Cl 10 #[.int .i64 op] (.tuple #[.agg #[.int .u8 ty, .int .i64 m, .bool sg, .bool st], .bool is])) (HY : Ct 11 #[.int .i64 op] (.tuple #[.int .u8 ty, .int .i64 m, .bool sg, .bool st]))
    (HZ : (0 < m ∧ is = true) ∨ (m = 0 ∧ is = false)) (W : World) (hk : Mk W) (hl : Ml W) : Calls Tryd.prog 3 #[.int .i64 op] W fun r W' => r = .returned (.bool true) ∧ Below W.heap.size W W' := by
  have HA := awake_any
  have HK := hide hk
  have HL := hide hl
  have HZ' := hide HZ
  clear hk hl HZ
  rcases HT with ⟨hr, rfl, rfl⟩ | ⟨hr, rfl, rfl⟩
  · have hm : (x != max x 0) = false := by
      have : max x 0 = x := by omega
      rw [this]; simp
    have hr' : decide (0 ≤ x) = true := by simp [hr]
    have hd : decide (nmo = nmo) = true := by simp
    go_enter Tryd.func3, Tryd.ntmps3
    go_wp2_with (go_at_call 5; refine ((unhide HA) _).mono ?_; rintro _ w2 ⟨rfl, hb2⟩)
    refine ((unhide HI) _ ((unhide HK).below hb2)).mono ?_
    rintro _ w3 ⟨rfl, hb3⟩
    have HB := hide (bthen hb2 hb3)
    clear hb2 hb3
    go_wp2_with (go_at_call 7; refine ((unhide HR) _).mono ?_; rintro _ w4 ⟨rfl, hb4⟩; have HB := hide (bthen (unhide HB) hb4); clear hb4)
    refine ((unhide HN) _).mono ?_
    rintro _ w5 ⟨rfl, hb5⟩
    have HB := hide (bthen (unhide HB) hb5)
    clear hb5
    go_wp2_with fail
    refine ((unhide HO) _).mono ?_
    rintro _ w6 ⟨rfl, hb6⟩
    have HB := hide (bthen (unhide HB) hb6)
    clear hb6
    have HZ := unhide HZ'
    go_wp2_with fail
    refine ((unhide HX) _ ((unhide HL).below (unhide HB))).mono ?_
    rintro _ w6 ⟨rfl, hb6⟩
    have HB := hide (bthen (unhide HB) hb6)
    clear hb6
    have c0 : (w6.alloc (.cells #[.int .u8 ty, .int .i64 m, .bool sg, .bool st] 28)).cell? ⟨w6.heap.size, 0, none⟩ = some (.int .u8 ty) := by simp [go_sem]
    have c1 : (w6.alloc (.cells #[.int .u8 ty, .int .i64 m, .bool sg, .bool st] 28)).cell? ⟨w6.heap.size, 1, none⟩ = some (.int .i64 m) := by simp [go_sem]
    have c2 : (w6.alloc (.cells #[.int .u8 ty, .int .i64 m, .bool sg, .bool st] 28)).cell? ⟨w6.heap.size, 2, none⟩ = some (.bool sg) := by simp [go_sem]
    have c3 : (w6.alloc (.cells #[.int .u8 ty, .int .i64 m, .bool sg, .bool st] 28)).cell? ⟨w6.heap.size, 3, none⟩ = some (.bool st) := by simp [go_sem]
    have hz : w6.heap.size < (w6.alloc (.cells #[.int .u8 ty, .int .i64 m, .bool sg, .bool st] 28)).heap.size := by simp
    have HC := hide (And.intro c0 (And.intro c1 (And.intro c2 (And.intro c3 hz))))
    have HB := hide (balloc (unhide HB) (.cells #[.int .u8 ty, .int .i64 m, .bool sg, .bool st] 28))
    clear c0 c1 c2 c3 hz
    go_wp2_with fail
    refine ((unhide HY) _).mono ?_
    rintro _ w7 ⟨rfl, hb7⟩
    obtain ⟨c0, c1, c2, c3, hz⟩ := unhide HC
    have c0 := keep1 hb7 hz c0
    have c1 := keep1 hb7 hz c1
    have c2 := keep1 hb7 hz c2
    have c3 := keep1 hb7 hz c3
    have HF := hide (bthen (unhide HB) hb7)
    clear hb7 hz HC
    rcases HZ with ⟨hm, rfl⟩ | ⟨rfl, rfl⟩
    · have hm' : decide (0 < m) = true := by simp [hm]
      go_wp2_with fail
      go_ret
      exact ⟨by simp, unhide HF⟩
    · go_wp2_with fail
      go_ret
      exact ⟨by simp, unhide HF⟩
  · have hm : ((0 : Int) != max r 0) = false := by
      have : max r 0 = 0 := by omega
      rw [this]; rfl
    have hr' : decide (0 ≤ r) = false := by simp; omega
    clear hr
    go_enter Tryd.func3, Tryd.ntmps3
    go_wp2_with (go_at_call 5; refine ((unhide HA) _).mono ?_; rintro _ w2 ⟨rfl, hb2⟩)
    refine ((unhide HI) _ ((unhide HK).below hb2)).mono ?_
    rintro _ w3 ⟨rfl, hb3⟩
    have HB := hide (bthen hb2 hb3)
    clear hb2 hb3
    go_wp2_with (go_at_call 7; refine ((unhide HR) _).mono ?_; rintro _ w4 ⟨rfl, hb4⟩; have HB := hide (bthen (unhide HB) hb4); clear hb4)
    refine ((unhide HN) _).mono ?_
    rintro _ w5 ⟨rfl, hb5⟩
    have HB := hide (bthen (unhide HB) hb5)
    clear hb5
    go_wp2_with fail
    refine ((unhide HO) _).mono ?_
    rintro _ w6 ⟨rfl, hb6⟩
    have HB := hide (bthen (unhide HB) hb6)
    clear hb6
    have HZ := unhide HZ'
    go_wp2_with fail
    refine ((unhide HX) _ ((unhide HL).below (unhide HB))).mono ?_
    rintro _ w6 ⟨rfl, hb6⟩
    have HB := hide (bthen (unhide HB) hb6)
    clear hb6
    have c0 : (w6.alloc (.cells #[.int .u8 ty, .int .i64 m, .bool sg, .bool st] 28)).cell? ⟨w6.heap.size, 0, none⟩ = some (.int .u8 ty) := by simp [go_sem]
    have c1 : (w6.alloc (.cells #[.int .u8 ty, .int .i64 m, .bool sg, .bool st] 28)).cell? ⟨w6.heap.size, 1, none⟩ = some (.int .i64 m) := by simp [go_sem]
    have c2 : (w6.alloc (.cells #[.int .u8 ty, .int .i64 m, .bool sg, .bool st] 28)).cell? ⟨w6.heap.size, 2, none⟩ = some (.bool sg) := by simp [go_sem]
    have c3 : (w6.alloc (.cells #[.int .u8 ty, .int .i64 m, .bool sg, .bool st] 28)).cell? ⟨w6.heap.size, 3, none⟩ = some (.bool st) := by simp [go_sem]
    have hz : w6.heap.size < (w6.alloc (.cells #[.int .u8 ty, .int .i64 m, .bool sg, .bool st] 28)).heap.size := by simp
    have HC := hide (And.intro c0 (And.intro c1 (And.intro c2 (And.intro c3 hz))))
    have HB := hide (balloc (unhide HB) (.cells #[.int .u8 ty, .int .i64 m, .bool sg, .bool st] 28))
    clear c0 c1 c2 c3 hz
    go_wp2_with fail
    refine ((unhide HY) _).mono ?_
    rintro _ w7 ⟨rfl, hb7⟩
    obtain ⟨c0, c1, c2, c3, hz⟩ := unhide HC
    have c0 := keep1 hb7 hz c0
    have c1 := keep1 hb7 hz c1
    have c2 := keep1 hb7 hz c2
    have c3 := keep1 hb7 hz c3
    have HF := hide (bthen (unhide HB) hb7)
    clear hb7 hz HC
    rcases HZ with ⟨hm, rfl⟩ | ⟨rfl, rfl⟩
    · have hm' : decide (0 < m) = true := by simp [hm]
      go_wp2_with fail
      go_ret
      exact ⟨by simp, unhide HF⟩
    · go_wp2_with fail
      go_ret
      exact ⟨by simp, unhide HF⟩

end Go.Proofs.YtkpdanjfdcoldaaDoor
