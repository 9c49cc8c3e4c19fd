/- The law LebBack: its walk. -/
import Derived.Test.YtbmkhhkklglomaaLawW
namespace Go.Proofs.Ytbmkhhkklglomaa
open Go.RowKit

set_option maxHeartbeats 2000000 in
set_option maxRecDepth 100000 in
theorem back_some {n s : Int} {b off m cap i k bits : Nat} {pu ps xs : List Int} {z3 j3 e3 z4 j4 e4 : Int} (W : World) (hm : m ≤ 100) (b0 : 1 ≤ bits) (b1 : bits ≤ 64) (n0 : 0 ≤ n) (n1 : n < 18446744073709551616) (hs : IntKind.i64.wrap n = s)
    (P1 : Puts 12 n pu) (P2 : Puts 14 n ps) (hpu : pu ≠ []) (hps : ps ≠ []) (L1 : Hid (pu.length ≤ 10)) (L2 : Hid (ps.length ≤ 10)) (HXL : Hid (xs.length = m)) (hi : i ≤ 9) (hk : k ≤ 9)
    (E1 : Hid ((pu ++ xs).length = i + 1 + m)) (E2 : Hid ((ps ++ xs).length = k + 1 + m)) (H4 : Hid (∀ j, j < m → W.cell? ⟨b, off + j, none⟩ = some (.int .u8 (xs.getD j 0)))) (HLX : Hid ((bys xs).length = m * 1))
    (U1 : Hid (∀ g c W, Sl W (some ⟨g, 0, none⟩) (i + 1 + m) c (pu ++ xs) → Calls Try.prog 8 #[.slice (some ⟨g, 0, none⟩) (i + 1 + m) c, .int .i64 0, .int .i64 64] W fun r W' => r = .returned (.tuple #[.int .u64 n, .int .i64 ((i : Int) + 1), .int .i64 0]) ∧ Below W.heap.size W W'))
    (S1 : Hid (∀ g c W, Sl W (some ⟨g, 0, none⟩) (k + 1 + m) c (ps ++ xs) → Calls Try.prog 9 #[.slice (some ⟨g, 0, none⟩) (k + 1 + m) c, .int .i64 0, .int .i64 64] W fun r W' => r = .returned (.tuple #[.int .u64 n, .int .i64 ((k : Int) + 1), .int .i64 0]) ∧ Below W.heap.size W W'))
    (U2 : Hid (∀ g c W, Sl W (some ⟨g, 0, none⟩) (i + 1 + m) c (pu ++ xs) → Calls Try.prog 8 #[.slice (some ⟨g, 0, none⟩) i c, .int .i64 0, .int .i64 64] W fun r W' => r = .returned (.tuple #[.int .u64 0, .int .i64 0, .int .i64 100]) ∧ Below W.heap.size W W'))
    (S2 : Hid (∀ g c W, Sl W (some ⟨g, 0, none⟩) (k + 1 + m) c (ps ++ xs) → Calls Try.prog 9 #[.slice (some ⟨g, 0, none⟩) k c, .int .i64 0, .int .i64 64] W fun r W' => r = .returned (.tuple #[.int .u64 0, .int .i64 0, .int .i64 100]) ∧ Below W.heap.size W W'))
    (U3 : Hid (∀ g c W, Sl W (some ⟨g, 0, none⟩) (i + 1 + m) c (pu ++ xs) → Calls Try.prog 8 #[.slice (some ⟨g, 0, none⟩) (i + 1 + m) c, .int .i64 0, .int .i64 (bits : Int)] W fun r W' => r = .returned (.tuple #[.int .u64 z3, .int .i64 j3, .int .i64 e3]) ∧ Below W.heap.size W W'))
    (S3 : Hid (∀ g c W, Sl W (some ⟨g, 0, none⟩) (k + 1 + m) c (ps ++ xs) → Calls Try.prog 9 #[.slice (some ⟨g, 0, none⟩) (k + 1 + m) c, .int .i64 0, .int .i64 (bits : Int)] W fun r W' => r = .returned (.tuple #[.int .u64 z4, .int .i64 j4, .int .i64 e4]) ∧ Below W.heap.size W W'))
    (HW : Hid (Ways n s z3 e3 z4 e4 bits)) :
    Calls Try.prog 5 #[.int .u64 n, .slice (some ⟨b, off, none⟩) m cap, .int .i64 (bits : Int)] W fun r W' => r = .returned (.bool true) ∧ Below W.heap.size W W' := by
  have HA := awake_any
  go_enter Try.func5, Try.ntmps5
  go_wp2_with fail
  refine (unhide HA _).mono ?_
  rintro _ w0 ⟨rfl, hb⟩
  have HB := hide hb
  clear hb
  go_wp2_with fail
  refine (unhide P1 _).mono ?_
  rintro _ wp1 ⟨vp1, rfl, hO, hb⟩
  have HO := hide hO
  have HU := hide hb
  clear hO hb
  have HG := hide (bys_off (fun j hj => keep1 (bthen (unhide HB) (unhide HU)) (lt_of_cell (unhide H4 j hj)) (unhide H4 j hj)) (unhide HXL))
  have HM := hide (show pu.length + m ≤ maxLen by unfold maxLen; have := unhide L1; omega)
  have HN := hide (show (pu.length + m) * 1 ≤ 140737488355328 by have := unhide L1; omega)
  go_upto_region 6 with (at_builtin; refine wpList_append_own _ rfl _ _ 22 rfl (w0.heap.size) 5 _ (.int .u8 0) 1 1 Try.underlying22 iU8 rfl rfl rfl rfl (by decide) _ _ _ rfl (unhide HO) ⟨b, off, none⟩ m cap (bys xs) rfl (unhide HLX) (unhide HG) (bys_cell _) (unhide HM) (unhide HN) (unhide HU).size ?_; intro v1 wa1 hown hgr _)
  have hr := app_row (unhide HO) (unhide HU) (unhide HU).size (by rw [unhide HXL]; exact hown) hgr
  clear hown hgr HO HU HG HM HN
  obtain ⟨g1, cap1, rfl⟩ := form_one hr.1 (by simp [hpu])
  have HR1 := hide (Ow.sl hr.1 (by simp [hpu]) (by have := unhide L1; rw [List.length_append, unhide HXL]; omega))
  rw [unhide E1] at HR1 ⊢
  have hc1 : i ≤ cap1 := by have := (unhide HR1).2.1; omega
  have HB := hide (bthen (unhide HB) hr.2)
  clear hr
  go_wp2_with fail
  refine (unhide P2 _).mono ?_
  rintro _ wp2 ⟨vp2, rfl, hO, hb⟩
  have HO := hide hO
  have HU := hide hb
  clear hO hb
  have HG := hide (bys_off (fun j hj => keep1 (bthen (unhide HB) (unhide HU)) (lt_of_cell (unhide H4 j hj)) (unhide H4 j hj)) (unhide HXL))
  have HM := hide (show ps.length + m ≤ maxLen by unfold maxLen; have := unhide L2; omega)
  have HN := hide (show (ps.length + m) * 1 ≤ 140737488355328 by have := unhide L2; omega)
  go_upto_region 7 with (at_builtin; refine wpList_append_own _ rfl _ _ 22 rfl (wa1.heap.size) 5 _ (.int .u8 0) 1 1 Try.underlying22 iU8 rfl rfl rfl rfl (by decide) _ _ _ rfl (unhide HO) ⟨b, off, none⟩ m cap (bys xs) rfl (unhide HLX) (unhide HG) (bys_cell _) (unhide HM) (unhide HN) (unhide HU).size ?_; intro v2 wa2 hown hgr _)
  have hr := app_row (unhide HO) (unhide HU) (unhide HU).size (by rw [unhide HXL]; exact hown) hgr
  clear hown hgr HO HU HG HM HN
  obtain ⟨g2, cap2, rfl⟩ := form_one hr.1 (by simp [hps])
  have HR2 := hide (Ow.sl hr.1 (by simp [hps]) (by have := unhide L2; rw [List.length_append, unhide HXL]; omega))
  rw [unhide E2] at HR2 ⊢
  have hc2 : k ≤ cap2 := by have := (unhide HR2).2.1; omega
  have HR1 := hide ((unhide HR1).below hr.2)
  have HB := hide (bthen (unhide HB) hr.2)
  clear hr
  go_wp2_with fail
  refine (unhide U1 _ _ _ (unhide HR1)).mono ?_
  rintro _ wc0 ⟨rfl, hb⟩
  have HB := hide (bthen (unhide HB) hb)
  have HR1 := hide ((unhide HR1).below hb)
  have HR2 := hide ((unhide HR2).below hb)
  clear hb
  go_wp2_with fail
  refine (unhide S1 _ _ _ (unhide HR2)).mono ?_
  rintro _ wc1 ⟨rfl, hb⟩
  have HB := hide (bthen (unhide HB) hb)
  have HR1 := hide ((unhide HR1).below hb)
  have HR2 := hide ((unhide HR2).below hb)
  clear hb
  go_wp2_with fail
  refine (unhide U2 _ _ _ (unhide HR1)).mono ?_
  rintro _ wc2 ⟨rfl, hb⟩
  have HB := hide (bthen (unhide HB) hb)
  have HR1 := hide ((unhide HR1).below hb)
  have HR2 := hide ((unhide HR2).below hb)
  clear hb
  go_wp2_with fail
  refine (unhide S2 _ _ _ (unhide HR2)).mono ?_
  rintro _ wc3 ⟨rfl, hb⟩
  have HB := hide (bthen (unhide HB) hb)
  have HR1 := hide ((unhide HR1).below hb)
  have HR2 := hide ((unhide HR2).below hb)
  clear hb
  go_wp2_with fail
  refine (unhide U3 _ _ _ (unhide HR1)).mono ?_
  rintro _ wc4 ⟨rfl, hb⟩
  have HB := hide (bthen (unhide HB) hb)
  have HR1 := hide ((unhide HR1).below hb)
  have HR2 := hide ((unhide HR2).below hb)
  clear hb
  go_wp2_with fail
  refine (unhide S3 _ _ _ (unhide HR2)).mono ?_
  rintro _ wc5 ⟨rfl, hb⟩
  have HB := hide (bthen (unhide HB) hb)
  have HR1 := hide ((unhide HR1).below hb)
  have HR2 := hide ((unhide HR2).below hb)
  clear hb
  clear U1 S1 U2 S2 U3 S3 P1 P2 HR1 HR2 E1 E2 L1 L2 HA
  rcases unhide HW with ⟨rfl, rfl, rfl, rfl, rfl⟩ | ⟨h64, ⟨hq, rfl, rfl⟩ | ⟨hq, he⟩, ⟨hr, rfl, rfl⟩ | ⟨hr0, hr, rfl, rfl⟩ | ⟨hr, hr2, hf⟩⟩
  all_goals
    go_wp2_with fail
    go_ret
    exact ⟨by first | rfl | (simp; omega), unhide HB⟩
end Go.Proofs.Ytbmkhhkklglomaa
