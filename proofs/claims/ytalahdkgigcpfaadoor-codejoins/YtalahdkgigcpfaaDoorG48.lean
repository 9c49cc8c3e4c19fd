/- CeN. -/
import Derived.Test.YtalahdkgigcpfaaDoorG42
import Derived.Test.YtalahdkgigcpfaaDoorG47
namespace Go.Proofs.YtalahdkgigcpfaaDoor
open Go.RowKit

set_option maxHeartbeats 1000000 in
set_option maxRecDepth 100000 in
theorem new_own {x1 : Option Addr} {x2 x3 : Nat} {ys : List Int} {W : World} (h : Sl W x1 x2 x3 ys) (hl : x2 ≤ 6000) (hy : Byt ys) :
    Calls Tryd.prog 8 #[.slice x1 x2 x3] W fun r W' => ∃ c y1 y3, r = .returned (.pointer (some ⟨c, 0, none⟩)) ∧ Cs c y1 x2 y3 ys 0 0 W' ∧ W.heap.size ≤ c ∧ (∀ p, y1 = some p → 0 < x2 → W.heap.size ≤ p.block) ∧ Fr [] W W' := by
  have HC := hide (clone_any h hl)
  have HY := hide hy
  clear h hy
  go_enter Tryd.func8, Tryd.ntmps8
  go_wp2_with fail
  refine (unhide HC).mono ?_
  rintro _ w1 ⟨y1, y3, rfl, hN, hF⟩
  have HN := hide hN
  have HF := hide hF
  clear hN hF
  go_wp2_with fail
  go_ret
  refine ⟨w1.heap.size, y1, y3, rfl, ⟨⟨?_, ?_, ?_, ?_⟩, (unhide HN).1.below (below1 _ _), ?_, unhide HY, Nat.zero_le _, hl⟩, (unhide HF).size, (unhide HN).2, (unhide HF).alloc _⟩
  · simp [go_sem]
  · simp [go_sem]
  · simp [go_sem]
  · intro o ho
    have := (room_cells (cs := [.slice y1 x2 y3, .int .i64 0, .int .i64 0]) (t := 62) w1 3 (by simp)) o ho
    exact this.2
  · intro p hp h0
    have := (unhide HN).1.lt p hp h0
    omega
theorem Lk.app : ∀ {T U : Fo}, Lk T → Lk U → Lk (T.app U)
  | .nil, _, _, h => h
  | .cons _ _ _ _, _, ⟨h0, h1, h2, h3, h4⟩, h => ⟨h0, h1, h2, h3, h4.app h⟩
set_option maxHeartbeats 8000000 in
set_option maxRecDepth 100000 in
theorem joins_long {x1 : Option Addr} {x2 x3 : Nat} {z1 : Option Addr} {z2 z3 : Nat} {W : World} (hm : Mk W) (h : 2000 < x2 ∨ ¬ 2000 < x2 ∧ 2000 < z2) :
    Calls Tryd.prog 6 #[.slice x1 x2 x3, .slice z1 z2 z3] W fun r W' => r = .returned (.bool true) ∧ Below W.heap.size W W' := by
  have HM := hide hm
  clear hm
  go_enter Tryd.func6, Tryd.ntmps6
  go_wp2_with fail
  refine (awake_any (unhide HM)).mono ?_
  rintro _ w1 ⟨rfl, hb⟩
  have HB := hide hb
  clear hb
  rcases h with h | ⟨h1, h2⟩
  · have h' : (2000 : Int) < x2 := by omega
    go_wp2_with fail
    go_ret
    exact ⟨rfl, unhide HB⟩
  · have h' : ¬ (2000 : Int) < x2 := by omega
    have h3 : (2000 : Int) < z2 := by omega
    go_wp2_with fail
    go_ret
    exact ⟨rfl, unhide HB⟩
set_option maxHeartbeats 8000000 in
set_option maxRecDepth 100000 in
theorem joins_any {x1 : Option Addr} {x2 x3 : Nat} {ys : List Int} {z1 : Option Addr} {z2 z3 : Nat} {ms : List Int} {W : World} (hm : Mk W) (hS : Sl W x1 x2 x3 ys) (hy : Byt ys) (hl : x2 ≤ 2000) (hT : Sl W z1 z2 z3 ms) (hz : Byt ms) (hl2 : z2 ≤ 2000) :
    Calls Tryd.prog 6 #[.slice x1 x2 x3, .slice z1 z2 z3] W fun r W' => r = .returned (.bool true) ∧ Below W.heap.size W W' := by
  have HM := hide hm
  have HSa := hide hS
  have HSb := hide hT
  have HYa := hide hy
  have HYb := hide hz
  have h3 := hm.three
  have h1' : ¬ (2000 : Int) < x2 := by omega
  have h2' : ¬ (2000 : Int) < z2 := by omega
  clear hS hT hy hz hm
  go_enter Tryd.func6, Tryd.ntmps6
  go_wp2_with fail
  refine (awake_any (unhide HM)).mono ?_
  rintro _ w1 ⟨rfl, hb⟩
  have HSa := hide ((unhide HSa).below hb)
  have HSb := hide ((unhide HSb).below hb)
  have HM := hide ((unhide HM).below hb)
  have HF := hide (Fr.of hb [])
  clear hb
  go_wp2_with fail
  refine (new_any (unhide HSa) (by omega) (unhide HYa)).mono ?_
  rintro _ w2 ⟨c, y1, y3, rfl, hC, hc, hF⟩
  have hxa := (unhide HSa).lt
  have hxb := (unhide HSb).lt
  have HSa := hide ((unhide HSa).fr hF (by simp))
  have HSb := hide ((unhide HSb).fr hF (by simp))
  have HM := hide ((unhide HM).fr hF (by simp))
  have hz1 := (unhide HF).size
  have hz12 := hF.size
  have HN := hide (show (∀ p, x1 = some p → 0 < x2 → p.block < w1.heap.size) ∧ (∀ p, z1 = some p → 0 < z2 → p.block < w1.heap.size) from ⟨hxa, hxb⟩)
  have HF := hide ((unhide HF).trans hF)
  have HQ := hide (show c < w2.heap.size ∧ (∀ p, y1 = some p → 0 < x2 → p.block < w2.heap.size) from ⟨hC.1.lt, hC.2.1.lt⟩)
  have HC := hide hC
  clear hC hF hxa hxb
  go_wp2_with fail
  refine (new_own (unhide HSb) (by omega) (unhide HYb)).mono ?_
  rintro _ w3 ⟨d, u1, u3, rfl, hC, hd, hu, hF⟩
  have HSa := hide ((unhide HSa).fr hF (by simp))
  have HSb := hide ((unhide HSb).fr hF (by simp))
  have HM := hide ((unhide HM).fr hF (by simp))
  have hz23 := hF.size
  have HC := hide ((unhide HC).fr hF (by simp) (by simp))
  have HF := hide ((unhide HF).trans hF)
  have HQd := hide (show d < w3.heap.size ∧ (∀ p, u1 = some p → 0 < z2 → p.block < w3.heap.size) from ⟨hC.1.lt, hC.2.1.lt⟩)
  have HNd := hide (show ∀ p, u1 = some p → 0 < z2 → p.block ≠ c from fun p hp h0 => by have := hu p hp h0; have := (unhide HQ).1; omega)
  have HD := hide hC
  clear hC hF hu
  go_wp2_with fail
  refine (expr_any (unhide HC) (unhide HM) (by omega)).mono ?_
  rintro _ w4 ⟨p, q, s, T, t, k1, e1, rfl, hD, hV, -, hC, hM, hF⟩
  have hcq := (unhide HQ).1
  have HSa := hide ((unhide HSa).fr hF (fun p hp h0 => by simp; have := (unhide HN).1 p hp h0; omega))
  have HSb := hide ((unhide HSb).fr hF (fun p hp h0 => by simp; have := (unhide HN).2 p hp h0; omega))
  have HD := hide ((unhide HD).fr hF (by simp; omega) (fun p hp h0 => by simp; exact unhide HNd p hp h0))
  have HF := hide ((unhide HF).thenL (l := []) hF (by simp; omega))
  have hz34 := hF.size
  have HC := hide hC
  have HM := hide hM
  have HR1 := hide hD
  have HV1 := hide hV
  clear hD hV hC hM hF
  go_wp2_with fail
  refine (expr_any (unhide HD) (unhide HM) (by omega)).mono ?_
  rintro _ w5 ⟨p2, q2, s2, T2, t2, k2, e2, rfl, hD, hV, -, hC, hM, hF⟩
  have hdq := (unhide HQd).1
  have HSa := hide ((unhide HSa).fr hF (fun p hp h0 => by simp; have := (unhide HN).1 p hp h0; omega))
  have HSb := hide ((unhide HSb).fr hF (fun p hp h0 => by simp; have := (unhide HN).2 p hp h0; omega))
  have HC := hide ((unhide HC).fr hF (by simp; omega) (fun p hp h0 => by simp; have := (unhide HQ).2 p hp h0; omega))
  have HF := hide ((unhide HF).thenL (l := []) hF (by simp; omega))
  have HV1 := hide (fun h => (((unhide HV1 h).fr hF (by simp; omega)).mono (P' := fun b => b < w5.heap.size) (fun b h _ => h)))
  have HV2 := hide (fun h => (hV h).mono (P' := fun b => b < w5.heap.size) (fun b h _ => h))
  have hz45 := hF.size
  have HD := hide hC
  have HM := hide hM
  have HR2 := hide hD
  clear hD hV hC hM hF
  go_wp2_with fail
  refine (err_any (unhide HC)).mono ?_
  rintro _ wx ⟨rfl, hww⟩
  obtain rfl : w5 = wx := hww.symm
  clear hww
  by_cases he : e1 = 0
  · have he' : (e1 != 0) = false := by simp [he]
    have HV1 := hide (unhide HV1 he)
    go_wp2_with fail
    refine (err_any (unhide HD)).mono ?_
    rintro _ wx ⟨rfl, hww⟩
    obtain rfl : w5 = wx := hww.symm
    clear hww
    by_cases he2 : e2 = 0
    · have he2' : (e2 != 0) = false := by simp [he2]
      have HV2 := hide (unhide HV2 he2)
      obtain ⟨l1, l2⟩ := (unhide HR1).live rfl
      have lv := (unhide HR1).val rfl he
      obtain ⟨g1, g2⟩ := (unhide HR2).live rfl
      have gv := (unhide HR2).val rfl he2
      rw [List.drop_zero] at l1 l2 lv g1 g2 gv
      rw [Nat.zero_add] at l1 g1
      have hs1 : sq true 0 false ys = ((T, t), k1, 0) := Prod.ext lv.symm (Prod.ext l1.symm (by rw [← l2]; exact he))
      have hs2 : sq true 0 false ms = ((T2, t2), k2, 0) := Prod.ext gv.symm (Prod.ext g1.symm (by rw [← g2]; exact he2))
      have hr1 := sq_red (sat := true) ys.length ys (Nat.le_refl _) (unhide HYa) 0 false (by rw [hs1]) (by decide)
      have hr2 := sq_red (sat := true) ms.length ms (Nat.le_refl _) (unhide HYb) 0 false (by rw [hs2]) (by decide)
      have hle1 := (gq_sq true 0 false).len ys
      have hle2 := (gq_sq true 0 false).len ms
      have hx1 : ys.length = x2 := (unhide HSa).1
      have hx2 : ms.length = z2 := (unhide HSb).1
      have hj := sq_joins hs2 ys.length ys (Nat.le_refl _) T t k1 hs1
      rw [hs1] at hr1 hle1
      rw [hs2] at hr2 hle2
      have y1' := hr1.size
      have y2' := hr2.size
      have HK1 := hide hr1.lk
      have HK2 := hide hr2.lk
      have n1 := hr1.dep
      have n2 := hr2.dep
      dsimp only at y1' y2' hle1 hle2 n1 n2
      have HJ := hide hj
      clear hr1 hr2 hs1 hs2 hj l1 l2 lv g1 g2 gv HR1 HR2
      obtain ⟨m, hk1⟩ : ∃ m, k1 = m + 1 := ⟨k1 - 1, by omega⟩
      rw [show k1 - 1 = m by omega] at HJ
      obtain ⟨bb, off, rfl⟩ : ∃ bb off, x1 = some ⟨bb, off, none⟩ := by
        rcases (unhide HSa).2.2.2 with ⟨_, h2, _⟩ | ⟨bb, off, h2, _⟩
        · omega
        · exact ⟨bb, off, h2⟩
      have hcap := (unhide HSa).2.1
      have iw : IntKind.i64.wrap ((k1 : Int) - 1) = (m : Int) := by rw [i64_id (by omega) (by omega)]; omega
      have hSa := unhide HSa
      have hSb := unhide HSb
      have hPa := hSa.part (k := 0) (n := m) (by omega) x3 (by omega)
      rw [Nat.add_zero, List.drop_zero] at hPa
      obtain ⟨a1, cap1, w6, q1, q2, q3, q4⟩ := app_run (ow_lit w5 [] 0 rfl (by omega)) (by simp) (hPa.below (below1 w5 (.cells (bys []).toArray 5))) (by simp; omega)
      have e1 : List.length ([] : List Int) + m = m := by simp
      rw [e1] at q1 q2 q3
      rw [List.nil_append] at q2 q3
      have b3 : Below w5.heap.size w5 w6 := (below1 w5 (.cells (bys []).toArray 5)).trans q4
      obtain ⟨a2, cap2, w7, p1, p2, p3, p4⟩ := app_run q2 b3.size (hSb.below b3) (by rw [List.length_take]; omega)
      have e2 : (ys.take m).length = m := by rw [List.length_take]; omega
      rw [e2] at p1 p2 p3
      have b4 : Below w5.heap.size w5 w7 := b3.trans p4
      have HR1 : Hid ((Builtin.append_ #[22, 22] 22 #[.slice (some ⟨w5.heap.size, 0, none⟩) 0 0, .slice (some ⟨bb, off, none⟩) m x3]).run Tryd.prog (w5.alloc (.cells #[] 5)) = .ok (.slice a1 m cap1) w6) := hide q1
      have HR2 := hide p1
      have HA := hide (at_any ((unhide HC).bel (below1 w5 (.cells #[] 5))))
      have HF := hide ((unhide HF).bel b4)
      have HM := hide ((unhide HM).below b4)
      have HV1 := hide ((unhide HV1).fr (Fr.of b4 []) (by simp))
      have HV2 := hide ((unhide HV2).fr (Fr.of b4 []) (by simp))
      have HC := hide ((unhide HC).bel b4)
      have HD := hide ((unhide HD).bel b4)
      have hz57 := b4.size
      have HN4 := hide (new_any p3 (by omega) (fun x hx => by rcases List.mem_append.1 hx with h | h; exact unhide HYa x (List.mem_of_mem_take h); exact unhide HYb x h))
      clear hSa hSb hPa q1 q2 q3 q4 p1 p2 p3 p4 b3 b4 e1 e2 HSa HSb
      go_wp2_with fail
      refine (unhide HA).mono ?_
      rintro _ wx ⟨rfl, rfl⟩
      go_wp2_with (at_builtin; first | refine wpList_app (w := w5.alloc (.cells #[] 5)) (by rfl) rfl rfl (unhide HR1) ?_ | refine wpList_app (w := w6) (by rfl) rfl rfl (unhide HR2) ?_)
      refine (unhide HN4).mono ?_
      rintro _ w8 ⟨f, u5, u6, rfl, hC, hf, hF⟩
      have HM := hide ((unhide HM).fr hF (by simp))
      have HV1 := hide ((unhide HV1).fr hF (by simp))
      have HV2 := hide ((unhide HV2).fr hF (by simp))
      have HC := hide ((unhide HC).fr hF (by simp) (by simp))
      have HD := hide ((unhide HD).fr hF (by simp) (by simp))
      have hzf := (unhide HF).size
      have hzf2 := hF.size
      have HF := hide ((unhide HF).trans hF)
      have HE := hide hC
      clear hC hF HN4 HR1 HR2 HA
      go_wp2_with fail
      refine (expr_any (unhide HE) (unhide HM) (by omega)).mono ?_
      rintro _ w9 ⟨p3, q3, s3, T3, t3, k3, e3, rfl, hR, hV, -, hC, hM, hF⟩
      obtain ⟨l1, l2⟩ := hR.live rfl
      have lv := hR.val rfl
      rw [List.drop_zero, unhide HJ] at l1 l2 lv
      dsimp only at l1 l2 lv
      rw [Nat.zero_add] at l1
      subst l1; subst l2
      obtain ⟨rfl, rfl⟩ : T3 = T.app T2 ∧ t3 = t2 := Prod.mk.inj (lv rfl)
      have HV3 := hide ((hV rfl).mono (P' := fun b => b < w9.heap.size) (fun b h _ => h))
      have HV1 := hide (((unhide HV1).fr hF (by simp; omega)).mono (P' := fun b => b < w9.heap.size) (fun b h _ => h))
      have HV2 := hide (((unhide HV2).fr hF (by simp; omega)).mono (P' := fun b => b < w9.heap.size) (fun b h _ => h))
      have HC := hide ((unhide HC).fr hF (by simp; have := (unhide HQ).1; omega) (fun p hp h0 => by simp; have := (unhide HQ).2 p hp h0; omega))
      have HD := hide ((unhide HD).fr hF (by simp; have := (unhide HQd).1; omega) (fun p hp h0 => by simp; have := (unhide HQd).2 p hp h0; omega))
      have HF := hide ((unhide HF).thenL (l := []) hF (by simp; omega))
      have HE := hide hC
      have HM := hide hM
      clear hR hV hC hM hF lv HJ HN
      have hlT := T.len_le
      have hlT2 := T2.len_le
      have HZs := hide (T.size_app T2)
      have HZd := hide (T.dep_app T2)
      obtain ⟨p4, s4, wA, d1, hr1, hy1, hzA, hbA⟩ := Ry.apps (t := 29) (U := T) Tryd.underlying29 iIn zero50 size50 rfl bytes50 rfl (ry_lit (fun _ => True) w9) (by simp) (by show 0 + T.len ≤ _; omega) (((unhide HV1).fr (Fr.of (below1 w9 (.cells #[] 50)) []) (by simp)).mono (fun b _ h => ⟨trivial, h⟩))
      have bA : Below w9.heap.size w9 wA := (below1 w9 (.cells #[] 50)).trans hbA
      rw [show Fo.nil.app T = T from rfl] at hr1 hy1
      obtain ⟨p5, s5, wB, d2, hr2, hy2, hzB, hbB⟩ := Ry.apps (t := 29) (U := T2) Tryd.underlying29 iIn zero50 size50 rfl bytes50 rfl hy1 bA.size (by omega) (((unhide HV2).fr (Fr.of bA []) (by simp)).mono (fun b _ h => ⟨trivial, h⟩))
      have bB : Below w9.heap.size w9 wB := bA.trans hbB
      have HR1 := hide hr1
      have HR2 := hide hr2
      have HV4 := hide (hy2.fov rfl)
      have HV1 := hide ((unhide HV1).fr (Fr.of bB []) (by simp))
      have HV2 := hide ((unhide HV2).fr (Fr.of bB []) (by simp))
      have HV3 := hide ((unhide HV3).fr (Fr.of bB []) (by simp))
      have HC := hide ((unhide HC).bel bB)
      have HD := hide ((unhide HD).bel bB)
      have HE := hide ((unhide HE).bel bB)
      have HM := hide ((unhide HM).below bB)
      have HF := hide ((unhide HF).bel bB)
      clear hr1 hr2 hy1 hy2 bA bB hbA hbB hzA hzB
      go_wp2_with (at_builtin; first | refine wpList_appT (t := 29) (w := w9.alloc (.cells #[] 50)) (by rfl) rfl rfl (unhide HR1) ?_ | refine wpList_appT (t := 29) (w := wA) (by rfl) rfl rfl (unhide HR2) ?_)
      refine (err_any (unhide HE)).mono ?_
      rintro _ wx ⟨rfl, hww⟩
      obtain rfl : wB = wx := hww.symm
      clear hww
      go_wp2_with fail
      refine (at_any (unhide HE)).mono ?_
      rintro _ wx ⟨rfl, hww⟩
      obtain rfl : wB = wx := hww.symm
      clear hww
      go_wp2_with fail
      refine (at_any (unhide HC)).mono ?_
      rintro _ wx ⟨rfl, hww⟩
      obtain rfl : wB = wx := hww.symm
      clear hww
      have iw2 : IntKind.i64.wrap ((m : Int) + (k2 : Int)) = (m : Int) + (k2 : Int) := i64_id (by omega) (by omega)
      go_wp2_with fail
      refine (at_any (unhide HD)).mono ?_
      rintro _ wx ⟨rfl, hww⟩
      obtain rfl : wB = wx := hww.symm
      clear hww
      go_wp2_with fail
      refine (plain_any ((T.app T2).size + 1) (T.app T2) _ (.slice p3 q3 s3) _ (Nat.lt_succ_self _) (by rw [unhide HZs]; omega) (unhide HV3)).mono ?_
      rintro _ w10 ⟨px, sx, rfl, hV, hF⟩
      have HV5 := hide hV
      have HV1 := hide ((unhide HV1).fr hF (by simp))
      have HV2 := hide ((unhide HV2).fr hF (by simp))
      have HV3 := hide ((unhide HV3).fr hF (by simp))
      have HV4 := hide ((unhide HV4).fr hF (by simp))
      have HM := hide ((unhide HM).fr hF (by simp))
      have HF := hide ((unhide HF).trans hF)
      clear hV hF HC HD HE
      go_wp2_with fail
      refine (plain_any ((T.app T2).size + 1) (T.app T2) _ (.slice p5 (T.app T2).len s5) _ (Nat.lt_succ_self _) (by rw [unhide HZs]; omega) (unhide HV4)).mono ?_
      rintro _ w11 ⟨py, sy, rfl, hV, hF⟩
      have HV6 := hide hV
      have HV1 := hide ((unhide HV1).fr hF (by simp))
      have HV2 := hide ((unhide HV2).fr hF (by simp))
      have HV3 := hide ((unhide HV3).fr hF (by simp))
      have HV5 := hide ((unhide HV5).fr hF (by simp))
      have HM := hide ((unhide HM).fr hF (by simp))
      have HF := hide ((unhide HF).trans hF)
      have HLa := hide ((unhide HK1).app (unhide HK2))
      clear hV hF HV4
      go_wp2_with fail
      refine (same_any ((T.app T2).size + 1) (T.app T2) _ _ _ _ _ (Nat.lt_succ_self _) (by rw [unhide HZs]; omega) (unhide HLa).ok (unhide HV5) (unhide HV6)).mono ?_
      rintro _ w12 ⟨rfl, hF⟩
      have HV1 := hide ((unhide HV1).fr hF (by simp))
      have HV2 := hide ((unhide HV2).fr hF (by simp))
      have HV3 := hide ((unhide HV3).fr hF (by simp))
      have HM := hide ((unhide HM).fr hF (by simp))
      have HF := hide ((unhide HF).trans hF)
      clear hF HV5 HV6
      go_wp2_with fail
      refine (size_any (unhide HLa).lw (unhide HV3) (by rw [unhide HZs]; omega)).mono ?_
      rintro _ w13 ⟨rfl, hb⟩
      have HV1 := hide ((unhide HV1).fr (Fr.of hb []) (by simp))
      have HV2 := hide ((unhide HV2).fr (Fr.of hb []) (by simp))
      have HV3 := hide ((unhide HV3).fr (Fr.of hb []) (by simp))
      have HM := hide ((unhide HM).below hb)
      have HF := hide ((unhide HF).bel hb)
      clear hb
      go_wp2_with fail
      refine (size_any (unhide HK1).lw (unhide HV1) (by omega)).mono ?_
      rintro _ w14 ⟨rfl, hb⟩
      have HV1 := hide ((unhide HV1).fr (Fr.of hb []) (by simp))
      have HV2 := hide ((unhide HV2).fr (Fr.of hb []) (by simp))
      have HV3 := hide ((unhide HV3).fr (Fr.of hb []) (by simp))
      have HM := hide ((unhide HM).below hb)
      have HF := hide ((unhide HF).bel hb)
      clear hb
      go_wp2_with fail
      refine (size_any (unhide HK2).lw (unhide HV2) (by omega)).mono ?_
      rintro _ w15 ⟨rfl, hb⟩
      have HV1 := hide ((unhide HV1).fr (Fr.of hb []) (by simp))
      have HV2 := hide ((unhide HV2).fr (Fr.of hb []) (by simp))
      have HV3 := hide ((unhide HV3).fr (Fr.of hb []) (by simp))
      have HM := hide ((unhide HM).below hb)
      have HF := hide ((unhide HF).bel hb)
      clear hb
      have iw3 : IntKind.i64.wrap ((T.size : Int) + (T2.size : Int)) = (T.size : Int) + (T2.size : Int) := i64_id (by omega) (by omega)
      have hzs : (((T.app T2).size : Nat) : Int) = (T.size : Int) + (T2.size : Int) := by rw [unhide HZs]; omega
      rw [hzs]
      go_wp2_with fail
      refine (depth_any (unhide HLa).lw (unhide HV3) (by rw [unhide HZs]; omega) (unhide HM)).mono ?_
      rintro _ w16 ⟨rfl, hb⟩
      have HV1 := hide ((unhide HV1).fr (Fr.of hb []) (by simp))
      have HV2 := hide ((unhide HV2).fr (Fr.of hb []) (by simp))
      have HM := hide ((unhide HM).below hb)
      have HF := hide ((unhide HF).bel hb)
      clear hb
      go_wp2_with fail
      refine (depth_any (unhide HK1).lw (unhide HV1) (by omega) (unhide HM)).mono ?_
      rintro _ w17 ⟨rfl, hb⟩
      have HV1 := hide ((unhide HV1).fr (Fr.of hb []) (by simp))
      have HV2 := hide ((unhide HV2).fr (Fr.of hb []) (by simp))
      have HM := hide ((unhide HM).below hb)
      have HF := hide ((unhide HF).bel hb)
      clear hb
      go_wp2_with fail
      refine (depth_any (unhide HK2).lw (unhide HV2) (by omega) (unhide HM)).mono ?_
      rintro _ w18 ⟨rfl, hb⟩
      have HM := hide ((unhide HM).below hb)
      have HF := hide ((unhide HF).bel hb)
      clear hb
      rw [unhide HZd]
      rcases Nat.lt_trichotomy T.dep T2.dep with hq | hq | hq
      · rw [Nat.max_eq_right (Nat.le_of_lt hq)]
        have hq' : (T.dep : Int) ≤ (T2.dep : Int) := by omega
        have hq2 : ¬ (T2.dep : Int) ≤ (T.dep : Int) := by omega
        go_wp2_with fail
        all_goals
          go_ret
          exact ⟨rfl, (unhide HF).nil⟩
      · rw [hq, Nat.max_self]
        go_wp2_with fail
        all_goals
          go_ret
          exact ⟨rfl, (unhide HF).nil⟩
      · rw [Nat.max_eq_left (Nat.le_of_lt hq)]
        have hq' : (T2.dep : Int) ≤ (T.dep : Int) := by omega
        have hq2 : ¬ (T.dep : Int) ≤ (T2.dep : Int) := by omega
        go_wp2_with fail
        all_goals
          go_ret
          exact ⟨rfl, (unhide HF).nil⟩
    · have he2' : (e2 != 0) = true := by simp [he2]
      go_wp2_with fail
      go_ret
      exact ⟨rfl, (unhide HF).nil⟩
  · have he' : (e1 != 0) = true := by simp [he]
    go_wp2_with fail
    go_ret
    exact ⟨rfl, (unhide HF).nil⟩
end Go.Proofs.YtalahdkgigcpfaaDoor
