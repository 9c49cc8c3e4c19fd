/- OpcodeKinds. -/
import Derived.Test.YtkpdanjfdcoldaaDoorOpM
import Derived.Test.YtkpdanjfdcoldaaDoorKnA
import Derived.Test.YtkpdanjfdcoldaaDoorImA
import Derived.Test.YtkpdanjfdcoldaaDoorTk
namespace Go.Proofs.YtkpdanjfdcoldaaDoor
open Go.RowKit

set_option maxHeartbeats 8000000 in
set_option maxRecDepth 100000 in
theorem kinds_no (op ti c tu : Int) (HK : Cm 12 #[.int .i64 op] (.tuple #[.int .u8 ti, .int .i64 c, .int .u8 tu, .bool false])) (W : World) (m : Mk W) : Calls Tryd.prog 4 #[.int .i64 op] W fun r W' => r = .returned (.bool true) ∧ Below W.heap.size W W' := by
  have HA := awake_any
  have HM := hide m
  clear m
  go_enter Tryd.func4, Tryd.ntmps4
  go_wp2_with (go_at_call 5; refine ((unhide HA) _).mono ?_; rintro _ w2 ⟨rfl, hb2⟩)
  refine ((unhide HK) _ ((unhide HM).below hb2)).mono ?_
  rintro _ w3 ⟨rfl, hb3⟩
  go_wp2_with fail
  go_ret
  exact ⟨rfl, bthen hb2 hb3⟩
set_option maxHeartbeats 8000000 in
set_option maxRecDepth 100000 in
theorem kinds_s (op t ti c tu : Int) (s : ByteArray) (ho : 69 ≤ op) (ht : t = 124 ∨ t = 125 ∨ t = 126 ∨ t = 127) (hw : (op ≤ 102 ∧ t = ti) ∨ (¬ op ≤ 102 ∧ t = tu)) (hl : 4 < s.size) (hs : (s.extract 0 4) = bs (wT t))
    (HK : Cm 12 #[.int .i64 op] (.tuple #[.int .u8 ti, .int .i64 c, .int .u8 tu, .bool true])) (HN : Ct 8 #[.int .i64 op] (.string s)) (HI : Cm 6 #[.int .i64 op] (.tuple #[.int .i64 0, .bool true])) (W : World) (m : Mk W) : Calls Tryd.prog 4 #[.int .i64 op] W fun r W' => r = .returned (.bool true) ∧ Below W.heap.size W W' := by
  have HA := awake_any
  have HM := hide m
  have HT := hide ht
  have HS := hide hs
  have HL := hide hl
  clear m ht hs hl
  rcases hw with ⟨ho2, rfl⟩ | ⟨ho2, rfl⟩
  all_goals
    go_enter Tryd.func4, Tryd.ntmps4
    go_wp2_with (go_at_call 5; refine ((unhide HA) _).mono ?_; rintro _ w2 ⟨rfl, hb2⟩)
    refine ((unhide HK) _ ((unhide HM).below hb2)).mono ?_
    rintro _ w3 ⟨rfl, hb3⟩
    have HB := hide (bthen hb2 hb3)
    clear hb2 hb3
    go_wp2_with fail
    refine ((unhide HN) _).mono ?_
    rintro _ w4 ⟨rfl, hb4⟩
    have c0 : w4.cell? ⟨w3.heap.size, 0, none⟩ = some (.string ⟨#[102, 54, 52, 46]⟩) := keep1 hb4 (by simp) (by simp [go_sem])
    have c1 : w4.cell? ⟨w3.heap.size, 1, none⟩ = some (.string ⟨#[102, 51, 50, 46]⟩) := keep1 hb4 (by simp) (by simp [go_sem])
    have c2 : w4.cell? ⟨w3.heap.size, 2, none⟩ = some (.string ⟨#[105, 54, 52, 46]⟩) := keep1 hb4 (by simp) (by simp [go_sem])
    have c3 : w4.cell? ⟨w3.heap.size, 3, none⟩ = some (.string ⟨#[105, 51, 50, 46]⟩) := keep1 hb4 (by simp) (by simp [go_sem])
    have HB := hide (bthen (balloc (unhide HB) _) hb4)
    clear hb4
    have HC := hide (And.intro c0 (And.intro c1 (And.intro c2 c3)))
    clear c0 c1 c2 c3
    go_wp2_with fail
    refine ((unhide HI) _ ((unhide HM).below (unhide HB))).mono ?_
    rintro _ w5 ⟨rfl, hb5⟩
    obtain ⟨c0, c1, c2, c3⟩ := unhide HC
    have hz := lt_of_cell c0
    have c0 := keep1 hb5 hz c0
    have c1 := keep1 hb5 hz c1
    have c2 := keep1 hb5 hz c2
    have c3 := keep1 hb5 hz c3
    have HB := hide (bthen (unhide HB) hb5)
    clear hb5 hz HC
    have h4 : (4 : Int) < (s.size : Int) := by have := unhide HL; omega
    rcases unhide HT with rfl | rfl | rfl | rfl
    · have hs : s.extract 0 4 = ⟨#[102, 54, 52, 46]⟩ := unhide HS
      have h5 : (4 : Int) ≤ (s.size : Int) := by omega
      have hu : IntKind.u8.wrap 0 = 0 := by kernel_rfl
      have ck := hide (keep1 ((Below.refl _ w5).drew) (lt_of_cell c0) c0)
      clear c0 c1 c2 c3 HS HT
      go_wp2_with fail
      refine wp_region_held_drew (S := fun w' => w'.cell? ⟨w3.heap.size, 0, none⟩ = some (.string ⟨#[102, 54, 52, 46]⟩)) (by kernel_rfl) ?_ (fun hHeld => ?_)
      · (try dsimp only)
        exact unhide ck
      refine lst0 28 (by kernel_rfl) ?_
      refine tkA 0 39 1 ?_
      refine tkA 1 40 3 ?_
      refine tkA 2 41 7 ?_
      refine tkA 3 42 15 ?_
      refine tkA 4 43 31 ?_
      refine tkA 5 44 63 ?_
      refine tkA 6 45 127 ?_
      refine tkA 7 46 255 ?_
      refine tkA 8 47 511 ?_
      refine tkA 9 48 1023 ?_
      refine tkA 10 49 2047 ?_
      refine tkA 11 50 4095 ?_
      refine tkA 12 51 8191 ?_
      refine tkA 13 52 16383 ?_
      refine tkA 14 53 32767 ?_
      refine tkA 15 54 65535 ?_
      refine tkA 16 55 131071 ?_
      refine tkA 17 56 262143 ?_
      refine tkA 18 57 524287 ?_
      refine tkA 19 58 1048575 ?_
      refine tkA 20 59 2097151 ?_
      refine tkA 21 60 4194303 ?_
      refine tkA 22 61 8388607 ?_
      refine tkA 23 62 16777215 ?_
      refine tkA 24 63 33554431 ?_
      refine tkA 25 64 67108863 ?_
      refine tkA 26 65 134217727 ?_
      refine tkA 27 2 268435455 ?_
      refine wpAnyH_done (by kernel_rfl) ?_ _
      clear hHeld
      go_wp2_with fail
      go_ret
      exact ⟨rfl, (unhide HB).drew⟩
    · have hs : s.extract 0 4 = ⟨#[102, 51, 50, 46]⟩ := unhide HS
      have h5 : (4 : Int) ≤ (s.size : Int) := by omega
      have hu : IntKind.u8.wrap 1 = 1 := by kernel_rfl
      have ck := hide (keep1 ((Below.refl _ w5).drew) (lt_of_cell c1) c1)
      clear c0 c1 c2 c3 HS HT
      go_wp2_with fail
      refine wp_region_held_drew (S := fun w' => w'.cell? ⟨w3.heap.size, 1, none⟩ = some (.string ⟨#[102, 51, 50, 46]⟩)) (by kernel_rfl) ?_ (fun hHeld => ?_)
      · (try dsimp only)
        exact unhide ck
      refine lst0 28 (by kernel_rfl) ?_
      refine tkA 0 39 1 ?_
      refine tkA 1 40 3 ?_
      refine tkA 2 41 7 ?_
      refine tkA 3 42 15 ?_
      refine tkA 4 43 31 ?_
      refine tkA 5 44 63 ?_
      refine tkA 6 45 127 ?_
      refine tkA 7 46 255 ?_
      refine tkA 8 47 511 ?_
      refine tkA 9 48 1023 ?_
      refine tkA 10 49 2047 ?_
      refine tkA 11 50 4095 ?_
      refine tkA 12 51 8191 ?_
      refine tkA 13 52 16383 ?_
      refine tkA 14 53 32767 ?_
      refine tkA 15 54 65535 ?_
      refine tkA 16 55 131071 ?_
      refine tkA 17 56 262143 ?_
      refine tkA 18 57 524287 ?_
      refine tkA 19 58 1048575 ?_
      refine tkA 20 59 2097151 ?_
      refine tkA 21 60 4194303 ?_
      refine tkA 22 61 8388607 ?_
      refine tkA 23 62 16777215 ?_
      refine tkA 24 63 33554431 ?_
      refine tkA 25 64 67108863 ?_
      refine tkA 26 65 134217727 ?_
      refine tkA 27 2 268435455 ?_
      refine wpAnyH_done (by kernel_rfl) ?_ _
      clear hHeld
      go_wp2_with fail
      go_ret
      exact ⟨rfl, (unhide HB).drew⟩
    · have hs : s.extract 0 4 = ⟨#[105, 54, 52, 46]⟩ := unhide HS
      have h5 : (4 : Int) ≤ (s.size : Int) := by omega
      have hu : IntKind.u8.wrap 2 = 2 := by kernel_rfl
      have ck := hide (keep1 ((Below.refl _ w5).drew) (lt_of_cell c2) c2)
      clear c0 c1 c2 c3 HS HT
      go_wp2_with fail
      refine wp_region_held_drew (S := fun w' => w'.cell? ⟨w3.heap.size, 2, none⟩ = some (.string ⟨#[105, 54, 52, 46]⟩)) (by kernel_rfl) ?_ (fun hHeld => ?_)
      · (try dsimp only)
        exact unhide ck
      refine lst0 28 (by kernel_rfl) ?_
      refine tkA 0 39 1 ?_
      refine tkA 1 40 3 ?_
      refine tkA 2 41 7 ?_
      refine tkA 3 42 15 ?_
      refine tkA 4 43 31 ?_
      refine tkA 5 44 63 ?_
      refine tkA 6 45 127 ?_
      refine tkA 7 46 255 ?_
      refine tkA 8 47 511 ?_
      refine tkA 9 48 1023 ?_
      refine tkA 10 49 2047 ?_
      refine tkA 11 50 4095 ?_
      refine tkA 12 51 8191 ?_
      refine tkA 13 52 16383 ?_
      refine tkA 14 53 32767 ?_
      refine tkA 15 54 65535 ?_
      refine tkA 16 55 131071 ?_
      refine tkA 17 56 262143 ?_
      refine tkA 18 57 524287 ?_
      refine tkA 19 58 1048575 ?_
      refine tkA 20 59 2097151 ?_
      refine tkA 21 60 4194303 ?_
      refine tkA 22 61 8388607 ?_
      refine tkA 23 62 16777215 ?_
      refine tkA 24 63 33554431 ?_
      refine tkA 25 64 67108863 ?_
      refine tkA 26 65 134217727 ?_
      refine tkA 27 2 268435455 ?_
      refine wpAnyH_done (by kernel_rfl) ?_ _
      clear hHeld
      go_wp2_with fail
      go_ret
      exact ⟨rfl, (unhide HB).drew⟩
    · have hs : s.extract 0 4 = ⟨#[105, 51, 50, 46]⟩ := unhide HS
      have h5 : (4 : Int) ≤ (s.size : Int) := by omega
      have hu : IntKind.u8.wrap 3 = 3 := by kernel_rfl
      have ck := hide (keep1 ((Below.refl _ w5).drew) (lt_of_cell c3) c3)
      clear c0 c1 c2 c3 HS HT
      go_wp2_with fail
      refine wp_region_held_drew (S := fun w' => w'.cell? ⟨w3.heap.size, 3, none⟩ = some (.string ⟨#[105, 51, 50, 46]⟩)) (by kernel_rfl) ?_ (fun hHeld => ?_)
      · (try dsimp only)
        exact unhide ck
      refine lst0 28 (by kernel_rfl) ?_
      refine tkA 0 39 1 ?_
      refine tkA 1 40 3 ?_
      refine tkA 2 41 7 ?_
      refine tkA 3 42 15 ?_
      refine tkA 4 43 31 ?_
      refine tkA 5 44 63 ?_
      refine tkA 6 45 127 ?_
      refine tkA 7 46 255 ?_
      refine tkA 8 47 511 ?_
      refine tkA 9 48 1023 ?_
      refine tkA 10 49 2047 ?_
      refine tkA 11 50 4095 ?_
      refine tkA 12 51 8191 ?_
      refine tkA 13 52 16383 ?_
      refine tkA 14 53 32767 ?_
      refine tkA 15 54 65535 ?_
      refine tkA 16 55 131071 ?_
      refine tkA 17 56 262143 ?_
      refine tkA 18 57 524287 ?_
      refine tkA 19 58 1048575 ?_
      refine tkA 20 59 2097151 ?_
      refine tkA 21 60 4194303 ?_
      refine tkA 22 61 8388607 ?_
      refine tkA 23 62 16777215 ?_
      refine tkA 24 63 33554431 ?_
      refine tkA 25 64 67108863 ?_
      refine tkA 26 65 134217727 ?_
      refine tkA 27 2 268435455 ?_
      refine wpAnyH_done (by kernel_rfl) ?_ _
      clear hHeld
      go_wp2_with fail
      go_ret
      exact ⟨rfl, (unhide HB).drew⟩

end Go.Proofs.YtkpdanjfdcoldaaDoor
