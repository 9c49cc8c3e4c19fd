/- PhC. -/
import Derived.Test.YtjoonmpjcophnaaGreatDoorUa39
import Derived.Test.YtjoonmpjcophnaaGreatDoorUa44
import Derived.Test.YtjoonmpjcophnaaGreatDoorUa45
import Derived.Test.YtjoonmpjcophnaaGreatDoorUa46
import Derived.Test.YtjoonmpjcophnaaGreatDoorUa47
namespace Go.Proofs.YtjoonmpjcophnaaGreatDoor
open Go.RowKit

theorem szP47 : (Tryz.prog.info? 47).map (·.size) = some 11 := by kernel_rfl
set_option maxHeartbeats 64000000 in
set_option maxRecDepth 100000 in
theorem plain20 {m : Mo} {P : Nat → Prop} {vs : List Value} {W : World} (hm : Mok m) (h : MoR W P m vs) : Calls Tryz.prog 11 #[.agg vs.toArray] W fun r W' => ∃ us : List Value, r = .returned (.agg us.toArray) ∧ MoR W' (fun b => P b ∧ b < W.heap.size ∨ W.heap.size ≤ b) m us ∧ Fr [] W W' := by
  have h := h.mono (P' := fun b => P b ∧ b < W.heap.size) (fun b h1 h2 => ⟨h2, h1⟩)
  obtain ⟨v0, v1, v2, v3, v4, v5, v6, v9, v10, rfl, k0, k1, k2, k3, k4, k5, k6, k9, k10⟩ := h.ex
  clear h
  obtain ⟨p0, q0, rfl, -, k0⟩ := k0.open
  have H0 := hide k0
  clear k0
  obtain ⟨p1, q1, rfl, -, k1⟩ := k1.open
  have H1 := hide k1
  clear k1
  obtain ⟨p2, q2, rfl, -, k2⟩ := k2.open
  have H2 := hide k2
  clear k2
  obtain ⟨p5, q5, rfl, -, k5⟩ := k5.open
  have H5 := hide k5
  clear k5
  obtain ⟨p6, q6, rfl, -, k6⟩ := k6.open
  have H6 := hide k6
  clear k6
  obtain ⟨p9, q9, rfl, -, k9⟩ := k9.open
  have H9 := hide k9
  clear k9
  obtain ⟨p10, q10, rfl, -, k10⟩ := k10.open
  have H10 := hide k10
  clear k10
  have o3 := k3.one
  have o4 := k4.one
  have H3 := hide k3
  have H4 := hide k4
  have HM := hide hm
  have hf2 := ((Fr.refl [] W).alloc (.cells #[.slice p0 m.types.length q0, .slice p1 m.imps.length q1, .slice p2 m.funcs.length q2, v3, v4, .slice p5 m.globs.length q5, .slice p6 m.exps.length q6, .bool m.starts, .int .u32 m.start, .slice p9 m.elems.length q9, .slice p10 m.datas.length q10] 34)).alloc (.cells #[.slice none 0 0, .slice none 0 0, .slice none 0 0, .slice none 0 0, .slice none 0 0, .slice none 0 0, .slice none 0 0, .bool false, .int .u32 0, .slice none 0 0, .slice none 0 0] 47)
  have hA : Vr W.heap.size 11 [.slice p0 m.types.length q0, .slice p1 m.imps.length q1, .slice p2 m.funcs.length q2, v3, v4, .slice p5 m.globs.length q5, .slice p6 m.exps.length q6, .bool m.starts, .int .u32 m.start, .slice p9 m.elems.length q9, .slice p10 m.datas.length q10] (W.alloc (.cells #[.slice p0 m.types.length q0, .slice p1 m.imps.length q1, .slice p2 m.funcs.length q2, v3, v4, .slice p5 m.globs.length q5, .slice p6 m.exps.length q6, .bool m.starts, .int .u32 m.start, .slice p9 m.elems.length q9, .slice p10 m.datas.length q10] 34)) := vr_new [.slice p0 m.types.length q0, .slice p1 m.imps.length q1, .slice p2 m.funcs.length q2, v3, v4, .slice p5 m.globs.length q5, .slice p6 m.exps.length q6, .bool m.starts, .int .u32 m.start, .slice p9 m.elems.length q9, .slice p10 m.datas.length q10] 34 W
  have hA2 : Vr W.heap.size 11 [.slice p0 m.types.length q0, .slice p1 m.imps.length q1, .slice p2 m.funcs.length q2, v3, v4, .slice p5 m.globs.length q5, .slice p6 m.exps.length q6, .bool m.starts, .int .u32 m.start, .slice p9 m.elems.length q9, .slice p10 m.datas.length q10] ((W.alloc (.cells #[.slice p0 m.types.length q0, .slice p1 m.imps.length q1, .slice p2 m.funcs.length q2, v3, v4, .slice p5 m.globs.length q5, .slice p6 m.exps.length q6, .bool m.starts, .int .u32 m.start, .slice p9 m.elems.length q9, .slice p10 m.datas.length q10] 34)).alloc (.cells #[.slice none 0 0, .slice none 0 0, .slice none 0 0, .slice none 0 0, .slice none 0 0, .slice none 0 0, .slice none 0 0, .bool false, .int .u32 0, .slice none 0 0, .slice none 0 0] 47)) := hA.fr (Fr.of (below1 _ _) []) (by simp)
  have hB2 : Vr (W.heap.size + 1) 11 nil11 ((W.alloc (.cells #[.slice p0 m.types.length q0, .slice p1 m.imps.length q1, .slice p2 m.funcs.length q2, v3, v4, .slice p5 m.globs.length q5, .slice p6 m.exps.length q6, .bool m.starts, .int .u32 m.start, .slice p9 m.elems.length q9, .slice p10 m.datas.length q10] 34)).alloc (.cells #[.slice none 0 0, .slice none 0 0, .slice none 0 0, .slice none 0 0, .slice none 0 0, .slice none 0 0, .slice none 0 0, .bool false, .int .u32 0, .slice none 0 0, .slice none 0 0] 47)) := by
    have := vr_new nil11 47 (W.alloc (.cells #[.slice p0 m.types.length q0, .slice p1 m.imps.length q1, .slice p2 m.funcs.length q2, v3, v4, .slice p5 m.globs.length q5, .slice p6 m.exps.length q6, .bool m.starts, .int .u32 m.start, .slice p9 m.elems.length q9, .slice p10 m.datas.length q10] 34))
    rwa [show (W.alloc (.cells #[.slice p0 m.types.length q0, .slice p1 m.imps.length q1, .slice p2 m.funcs.length q2, v3, v4, .slice p5 m.globs.length q5, .slice p6 m.exps.length q6, .bool m.starts, .int .u32 m.start, .slice p9 m.elems.length q9, .slice p10 m.datas.length q10] 34)).heap.size = W.heap.size + 1 by simp] at this
  have hs2 : ((W.alloc (.cells #[.slice p0 m.types.length q0, .slice p1 m.imps.length q1, .slice p2 m.funcs.length q2, v3, v4, .slice p5 m.globs.length q5, .slice p6 m.exps.length q6, .bool m.starts, .int .u32 m.start, .slice p9 m.elems.length q9, .slice p10 m.datas.length q10] 34)).alloc (.cells #[.slice none 0 0, .slice none 0 0, .slice none 0 0, .slice none 0 0, .slice none 0 0, .slice none 0 0, .slice none 0 0, .bool false, .int .u32 0, .slice none 0 0, .slice none 0 0] 47)).heap.size = W.heap.size + 2 := by simp
  clear k3 k4 hm
  go_enter Tryz.func11, Tryz.ntmps11
  go_wp2_with fail
  generalize (W.alloc (.cells #[.slice p0 m.types.length q0, .slice p1 m.imps.length q1, .slice p2 m.funcs.length q2, v3, v4, .slice p5 m.globs.length q5, .slice p6 m.exps.length q6, .bool m.starts, .int .u32 m.start, .slice p9 m.elems.length q9, .slice p10 m.datas.length q10] 34)).alloc (.cells #[.slice none 0 0, .slice none 0 0, .slice none 0 0, .slice none 0 0, .slice none 0 0, .slice none 0 0, .slice none 0 0, .bool false, .int .u32 0, .slice none 0 0, .slice none 0 0] 47) = W2 at *
  have HA := hide hA2
  have HB := hide hB2
  have HF2 := hide hf2
  clear hA hA2 hB2 hf2
  go_cut [3] (fun v3s wx => ∃ (tb : Nat) (u3 u4 : Value), v3s = .pointer (some ⟨tb, 0, none⟩) ∧ Pz W P tb [.slice p0 m.types.length q0, .slice p1 m.imps.length q1, .slice p2 m.funcs.length q2, v3, v4, .slice p5 m.globs.length q5, .slice p6 m.exps.length q6, .bool m.starts, .int .u32 m.start, .slice p9 m.elems.length q9, .slice p10 m.datas.length q10] { types := [], imps := [], funcs := [], tabs := m.tabs, mems := m.mems, globs := [], exps := [], starts := m.starts, start := m.start, elems := [], datas := [] } (.slice none 0 0) (.slice none 0 0) (.slice none 0 0) u3 u4 (.slice none 0 0) (.slice none 0 0) (.slice none 0 0) (.slice none 0 0) wx)
  case first =>
    have hdr : Fr [] W2 W2.drew := (Fr.refl _ _).drew
    have HA2 := (unhide HA).fr hdr (by simp)
    refine wp_region_held_drew (S := fun w' => w'.cell? ⟨W.heap.size, 3, none⟩ = some v3 ∧ w'.cell? ⟨W.heap.size, 4, none⟩ = some v4 ∧ w'.cell? ⟨W.heap.size, 7, none⟩ = some (.bool m.starts) ∧ w'.cell? ⟨W.heap.size, 8, none⟩ = some (.int .u32 m.start)) (by kernel_rfl) ?_ (fun hHeld => ?_)
    · (try dsimp only)
      exact ⟨HA2.tab 3 _ rfl, HA2.tab 4 _ rfl, HA2.tab 7 _ rfl, HA2.tab 8 _ rfl⟩
    refine wo_start (l := []) (N := W.heap.size + 2) (i1 := 11) (d1 := 3) (v1 := #[.slice none 0 0, .slice none 0 0, .slice none 0 0, .slice none 0 0, .slice none 0 0, .slice none 0 0, .slice none 0 0, .bool false, .int .u32 0, .slice none 0 0, .slice none 0 0]) (t1 := 47) (f := 1) (n := 11) (T := fun w' => Fr [] W2 w') (by kernel_rfl) (by kernel_rfl) (fun _ _ _ _ _ h => h) (fun _ _ h hb => ⟨(Fr.of hb []).keep h.1 (by simp), (Fr.of hb []).keep h.2.1 (by simp), (Fr.of hb []).keep h.2.2.1 (by simp), (Fr.of hb []).keep h.2.2.2 (by simp)⟩) (fun _ _ h hf => ⟨hf.keep h.1 (by simp), hf.keep h.2.1 (by simp), hf.keep h.2.2.1 (by simp), hf.keep h.2.2.2 (by simp)⟩) (by simp) ?_ (fun _ _ h hb => h.bel hb) hHeld hdr (by rw [← hs2]; exact hdr.size) ?_
    · intro a w K h
      unfold wpOp
      go_simp
      exact Or.inl h
    clear hHeld HA2 hdr
    refine woA 0 18 ?_
    refine woA 1 19 ?_
    refine woA 3 21 ?_
    refine woA 4 22 ?_
    refine woA 6 24 ?_
    refine woA 7 25 ?_
    refine woA 8 26 ?_
    refine woA 9 27 ?_
    refine wo_call (c := 2) (o := { dst := some 20, op := _, type := _, pos := _, after := _, guard := _ }) rfl (by kernel_rfl) (by kernel_rfl) (fun u hSu hTu Kk hKk => ?_)
    go_simp
    refine (plimits_any (unhide HM).tabs ((unhide H3).fr ((unhide HF2).trans hTu) (by simp))).mono ?_
    rintro _ w1 ⟨u, rfl, hS1, hF⟩
    obtain ⟨r3, s3, rfl⟩ := hS1.slc
    have hzu := hTu.size
    have hSn := hS1.mono (P' := fun b => W.heap.size + 2 ≤ b) (fun b _ q => by omega)
    have HTn : Hid ((fun w' => Fr [] W2 w' ∧ Sls eLim w' (fun b => W.heap.size + 2 ≤ b) m.tabs (.slice r3 m.tabs.length s3)) w1) := hide ⟨hTu.trans hF, hSn⟩
    have HFn := hide hF
    clear hF hTu hSu hS1 hSn hzu
    (try go_wp2_with fail)
    refine hKk.out _ _ (fun w' => Fr [] W2 w' ∧ Sls eLim w' (fun b => W.heap.size + 2 ≤ b) m.tabs (.slice r3 m.tabs.length s3)) (unhide HFn) (fun _ _ h hb => ⟨h.1.bel hb, h.2.fr (Fr.of hb []) (by simp)⟩) (unhide HTn) ?_
    clear hKk Kk HTn HFn
    (try simp only [Act.put, List.setIfInBounds_toArray, List.set_cons_zero, List.set_cons_succ])
    refine wo_call (c := 5) (o := { dst := some 23, op := _, type := _, pos := _, after := _, guard := _ }) rfl (by kernel_rfl) (by kernel_rfl) (fun u hSu hTu Kk hKk => ?_)
    go_simp
    refine (plimits_any (unhide HM).mems ((unhide H4).fr ((unhide HF2).trans hTu.1) (by simp))).mono ?_
    rintro _ w1 ⟨u, rfl, hS1, hF⟩
    obtain ⟨r4, s4, rfl⟩ := hS1.slc
    have hzu := hTu.1.size
    have hSn := hS1.mono (P' := fun b => W.heap.size + 2 ≤ b) (fun b _ q => by omega)
    have HTn : Hid ((fun w' => Fr [] W2 w' ∧ Sls eLim w' (fun b => W.heap.size + 2 ≤ b) m.tabs (.slice r3 m.tabs.length s3) ∧ Sls eLim w' (fun b => W.heap.size + 2 ≤ b) m.mems (.slice r4 m.mems.length s4)) w1) := hide ⟨hTu.1.trans hF, hTu.2.fr hF (by simp), hSn⟩
    have HFn := hide hF
    clear hF hTu hSu hS1 hSn hzu
    (try go_wp2_with fail)
    refine hKk.out _ _ (fun w' => Fr [] W2 w' ∧ Sls eLim w' (fun b => W.heap.size + 2 ≤ b) m.tabs (.slice r3 m.tabs.length s3) ∧ Sls eLim w' (fun b => W.heap.size + 2 ≤ b) m.mems (.slice r4 m.mems.length s4)) (unhide HFn) (fun _ _ h hb => ⟨h.1.bel hb, h.2.1.fr (Fr.of hb []) (by simp), h.2.2.fr (Fr.of hb []) (by simp)⟩) (unhide HTn) ?_
    clear hKk Kk HTn HFn
    (try simp only [Act.put, List.setIfInBounds_toArray, List.set_cons_zero, List.set_cons_succ])
    refine woA 10 28 ?_
    refine wo_fin (by kernel_rfl) (fun wf b1 hSu hTu k1' => ?_)
    (try simp only [Act.put, List.setIfInBounds_toArray, List.set_cons_zero, List.set_cons_succ])
    unfold ptr
    refine lstM 13 4095 (by kernel_rfl) ?_
    refine rdA 12 8191 (fun Kk hKk => ?_)
    rw [if_pos (by rfl)]
    have hrm := k1'.room
    have hbase := k1'.base
    have hVr := vr_cells (cs := [.slice none 0 0, .slice none 0 0, .slice none 0 0, .slice r3 m.tabs.length s3, .slice r4 m.mems.length s4, .slice none 0 0, .slice none 0 0, .bool m.starts, .int .u32 m.start, .slice none 0 0, .slice none 0 0]) (n := 11) hrm k1'.size rfl
    have hFw := fr_cells b1 [.slice none 0 0, .slice none 0 0, .slice none 0 0, .slice r3 m.tabs.length s3, .slice r4 m.mems.length s4, .slice none 0 0, .slice none 0 0, .bool m.starts, .int .u32 m.start, .slice none 0 0, .slice none 0 0] 0 wf
    have hL3 := (lim_off hTu.2.1 k1').fr hFw (by simp)
    have hL4 := (lim_off hTu.2.2 k1').fr hFw (by simp)
    have hFF := (((unhide HF2).trans hTu.1).thenL hFw (by simp; omega))
    refine oper_storeA (gb := b1) (off := 0) (cs := [.slice none 0 0, .slice none 0 0, .slice none 0 0, .slice r3 m.tabs.length s3, .slice r4 m.mems.length s4, .slice none 0 0, .slice none 0 0, .bool m.starts, .int .u32 m.start, .slice none 0 0, .slice none 0 0]) (by rfl) (by rfl) szP47 (fun j hj => by rw [Nat.zero_add]; exact hrm j hj) (by simp [Value.oneCell']) ?_
    generalize wf.setCells b1 0 [.slice none 0 0, .slice none 0 0, .slice none 0 0, .slice r3 m.tabs.length s3, .slice r4 m.mems.length s4, .slice none 0 0, .slice none 0 0, .bool m.starts, .int .u32 m.start, .slice none 0 0, .slice none 0 0] = wx at *
    refine hKk.out _ _ ?_ (fun hHeld => ?_)
    · (try dsimp only)
      exact ⟨hFw.keep hSu.1 (by simp; omega), hFw.keep hSu.2.1 (by simp; omega), hFw.keep hSu.2.2.1 (by simp; omega), hFw.keep hSu.2.2.2 (by simp; omega)⟩
    clear hKk Kk
    (try simp only [List.setIfInBounds_toArray, List.set_cons_zero, List.set_cons_succ])
    refine wpAnyH_done (by kernel_rfl) ?_ _
    have hOl := ((unhide HA).fr hTu.1 (by simp)).fr hFw (by simp; omega)
    have hRe := ((unhide HB).fr hTu.1 (by simp)).fr hFw (by simp; omega)
    have HPz : Hid (Pz W P b1 [.slice p0 m.types.length q0, .slice p1 m.imps.length q1, .slice p2 m.funcs.length q2, v3, v4, .slice p5 m.globs.length q5, .slice p6 m.exps.length q6, .bool m.starts, .int .u32 m.start, .slice p9 m.elems.length q9, .slice p10 m.datas.length q10] { types := [], imps := [], funcs := [], tabs := m.tabs, mems := m.mems, globs := [], exps := [], starts := m.starts, start := m.start, elems := [], datas := [] } (.slice none 0 0) (.slice none 0 0) (.slice none 0 0) (.slice r3 m.tabs.length s3) (.slice r4 m.mems.length s4) (.slice none 0 0) (.slice none 0 0) (.slice none 0 0) (.slice none 0 0) wx) := hide ⟨hVr, hOl, hRe, hbase, hFF, sls_nil _ _, sls_nil _ _, sls_nil _ _, hL3.mono (fun b _ q => ⟨.inr q.1, q.2⟩), hL4.mono (fun b _ q => ⟨.inr q.1, q.2⟩), sls_nil _ _, sls_nil _ _, sls_nil _ _, sls_nil _ _⟩
    clear hTu hSu hVr hFw hrm hHeld hL3 hL4 hFF hOl hRe
    go_wp2_with fail
    go_meet
    exact ⟨b1, _, _, rfl, unhide HPz⟩
  case rest =>
    obtain ⟨tb, u3, u4, rfl, hP⟩ := hcut
    rename World => wx
    have HP := hide hP
    clear hP HA HB HF2 H3 H4 o3 o4 hs2
    have g0 := (unhide HP).old.tab 0 _ rfl
    have htb := (unhide HP).vr.lt
    have hlo := (unhide HP).lo
    have hwz := (unhide HP).fr.size
    go_wp2_with fail
    clear g0
    go_loopw [32] (fun vi0 wr0 => ∃ (i : Nat) (cs : List Value) (v : Value), i ≤ m.types.length ∧ vi0 = .int .i64 (i : Int) ∧ Rye eTy (fun b => P b ∧ b < W.heap.size) 97 wx.heap.size v (m.types.take i) cs 0 wr0 ∧ Vr tb 11 [v, .slice none 0 0, .slice none 0 0, u3, u4, .slice none 0 0, .slice none 0 0, .bool m.starts, .int .u32 m.start, .slice none 0 0, .slice none 0 0] wr0 ∧ Fr [tb] wx wr0) (fun vi0 _ => m.types.length - (intOf vi0).toNat)
    case atStart => exact ⟨0, [], .slice none 0 0, by omega, rfl, rye_nil _ _ _ _ _ _, (unhide HP).vr, Fr.refl _ _⟩
    case round =>
      generalize wr = wr0 at *
      obtain ⟨i, cs, v, hi, rfl, hR, hV, hF⟩ := hrel
      obtain ⟨pp0, ss0, rfl⟩ := hR.slice_i hi
      by_cases hlt : i < m.types.length
      · rcases unhide H0 with h0 | ⟨b1, o1, rfl, hb1, k1⟩
        · omega
        have hat := List.getElem?_eq_getElem hlt
        have hi' : (i : Int) < (m.types.length : Int) := by omega
        have hi2 : (0 : Int) ≤ (i : Int) := by omega
        obtain ⟨_, hrep, k1⟩ := k1 i m.types[i] hat
        generalize m.types[i] = x at *
        have hFw := (unhide HP).up hF
        have hnn := (unhide HM).types
        obtain ⟨w1, w2, rfl, hw1, hw2⟩ := id hrep
        obtain ⟨a1, c1, rfl, -, -, -⟩ := id hw1
        obtain ⟨a2, c2, rfl, -, -, -⟩ := id hw2
        have g10 := hFw.keep (k1 0 (by decide)) (by simp)
        change wr0.cell? ⟨b1, o1 + i * 2, none⟩ = some (.slice a1 x.1.length c1) at g10
        have g11 := hFw.keep (k1 1 (by decide)) (by simp)
        change wr0.cell? ⟨b1, o1 + i * 2 + 1, none⟩ = some (.slice a2 x.2.length c2) at g11
        have hs : (wr0.alloc (.cells #[.slice a1 x.1.length c1, .slice a2 x.2.length c2] 96)).heap.size = wr0.heap.size + 1 := by simp
        have hf1 : Fr [] wr0 ((wr0.alloc (.cells #[.slice a1 x.1.length c1, .slice a2 x.2.length c2] 96)).alloc (.cells #[.slice a1 x.1.length c1, .slice a2 x.2.length c2] 97)) := ((Fr.refl [] wr0).alloc _).alloc _
        have hB := hF.size
        obtain ⟨p, s, w4, hrun, hR4, hfr4, -⟩ := hR.nx (x := x) (c := [.slice a1 x.1.length c1, .slice a2 x.2.length c2]) (o := ⟨wr0.heap.size + 1, 0, none⟩) Tryz.underlying38 iTy zeroTy sizeTy bytesTy (by decide) rfl hf1 hB (by omega) hat (eTy.mono (fun b _ q => .inl ⟨q, by have := q.2; omega⟩) (eTy.all hrep (fun p v hp hc => (hFw.trans hf1).keep hc (by simp)))) (fun j u hj => by rw [← hs, add_off, Nat.zero_add, World.cell?_alloc_new]; simpa using hj)
        have hown := fun g hg => World.ownsRow.lt hR.own g hg
        have hV4 := (hV.fr hf1 (by simp)).fr hfr4 (fun hm => by have := (hown tb (by simpa using hm)).1; omega)
        have hF4 := (hF.thenL hf1 (by simp)).thenL hfr4 (fun b hb => .inr (hown b (by simpa using hb)).1)
        have gT := (hV.fr (Fr.of (below1 wr0 (.cells #[.slice a1 x.1.length c1, .slice a2 x.2.length c2] 96)) []) (by simp)).tab 0 _ rfl
        obtain ⟨⟨z, gz⟩, fz⟩ := hV4.room 0 (by decide)
        have fA : Fr [tb] w4 (w4.setCell ⟨tb, 0, none⟩ (.slice p (i + 1) s)) := (Fr.refl _ _).place _ _
        have HR5 := hide (hR4.fr fA (fun j hj => by simp at hj; subst hj; exact ⟨fun q => by have := (World.ownsRow.lt hR4.own _ q).1; omega, fun q => by rcases q with q | q; have := q.1.2; omega; omega⟩) (fun q => q))
        have HV5 := hide (hV4.set 0 (.slice p (i + 1) s))
        have HF5 := hide (hF4.thenL fA (by simp))
        have HRun := hide hrun
        clear hrun hR4 hfr4 hf1 hs k1 hR hF hV hV4 hF4 fA hown hB hFw hrep hw1 hw2
        go_wp2_with (at_builtin; refine wpList_appT (w := ((wr0.alloc (.cells #[.slice a1 x.1.length c1, .slice a2 x.2.length c2] 96)).alloc (.cells #[.slice a1 x.1.length c1, .slice a2 x.2.length c2] 97))) (t := 38) (by rfl) rfl rfl (unhide HRun) ?_)
        exact ⟨⟨i + 1, _, _, by omega, by go_num, unhide HR5, unhide HV5, unhide HF5⟩, by simp [intOf]; omega⟩
      · obtain rfl : i = m.types.length := by omega
        rw [List.take_length] at hR
        have HPn := hide ((unhide HP).put0 m hF hV hR rfl (mm' := { types := m.types, imps := [], funcs := [], tabs := m.tabs, mems := m.mems, globs := [], exps := [], starts := m.starts, start := m.start, elems := [], datas := [] }) rfl)
        replace HP := HPn
        clear HPn hR hV hF htb hlo hwz hlt hi H0
        have g1 := (unhide HP).old.tab 1 _ rfl
        have htb := (unhide HP).vr.lt
        have hlo := (unhide HP).lo
        have hwz := (unhide HP).fr.size
        go_wp2_with fail
        clear g1
        go_loopw [46] (fun vi1 wr1 => ∃ (i : Nat) (cs : List Value) (v : Value), i ≤ m.imps.length ∧ vi1 = .int .i64 (i : Int) ∧ Rye eIm (fun b => P b ∧ b < W.heap.size) 106 wr0.heap.size v (m.imps.take i) cs 0 wr1 ∧ Vr tb 11 [.slice pp0 m.types.length ss0, v, .slice none 0 0, u3, u4, .slice none 0 0, .slice none 0 0, .bool m.starts, .int .u32 m.start, .slice none 0 0, .slice none 0 0] wr1 ∧ Fr [tb] wr0 wr1) (fun vi1 _ => m.imps.length - (intOf vi1).toNat)
        case atStart => exact ⟨0, [], .slice none 0 0, by omega, rfl, rye_nil _ _ _ _ _ _, (unhide HP).vr, Fr.refl _ _⟩
        case round =>
          generalize wr = wr1 at *
          obtain ⟨i, cs, v, hi, rfl, hR, hV, hF⟩ := hrel
          obtain ⟨pp1, ss1, rfl⟩ := hR.slice_i hi
          by_cases hlt : i < m.imps.length
          · rcases unhide H1 with h0 | ⟨b1, o1, rfl, hb1, k1⟩
            · omega
            have hat := List.getElem?_eq_getElem hlt
            have hi' : (i : Int) < (m.imps.length : Int) := by omega
            have hi2 : (0 : Int) ≤ (i : Int) := by omega
            obtain ⟨_, hrep, k1⟩ := k1 i m.imps[i] hat
            generalize m.imps[i] = x at *
            have hFw := (unhide HP).up hF
            have hnn := (unhide HM).imps
            obtain rfl := hrep
            have g10 := hFw.keep (k1 0 (by decide)) (by simp)
            change wr1.cell? ⟨b1, o1 + i * 9, none⟩ = some (.string (strOfNums x.mod)) at g10
            have g11 := hFw.keep (k1 1 (by decide)) (by simp)
            change wr1.cell? ⟨b1, o1 + i * 9 + 1, none⟩ = some (.string (strOfNums x.nam)) at g11
            have g12 := hFw.keep (k1 2 (by decide)) (by simp)
            change wr1.cell? ⟨b1, o1 + i * 9 + 2, none⟩ = some (.int .i64 x.kind) at g12
            have g13 := hFw.keep (k1 3 (by decide)) (by simp)
            change wr1.cell? ⟨b1, o1 + i * 9 + 3, none⟩ = some (.int .u32 x.ty) at g13
            have g14 := hFw.keep (k1 4 (by decide)) (by simp)
            change wr1.cell? ⟨b1, o1 + i * 9 + 4, none⟩ = some (.int .u32 x.lim.1) at g14
            have g15 := hFw.keep (k1 5 (by decide)) (by simp)
            change wr1.cell? ⟨b1, o1 + i * 9 + 5, none⟩ = some (.int .u32 x.lim.2.1) at g15
            have g16 := hFw.keep (k1 6 (by decide)) (by simp)
            change wr1.cell? ⟨b1, o1 + i * 9 + 6, none⟩ = some (.bool x.lim.2.2) at g16
            have g17 := hFw.keep (k1 7 (by decide)) (by simp)
            change wr1.cell? ⟨b1, o1 + i * 9 + 7, none⟩ = some (.int .u8 x.val) at g17
            have g18 := hFw.keep (k1 8 (by decide)) (by simp)
            change wr1.cell? ⟨b1, o1 + i * 9 + 8, none⟩ = some (.bool x.mu) at g18
            have hs : (wr1.alloc (.cells #[.string (strOfNums x.mod), .string (strOfNums x.nam), .int .i64 x.kind, .int .u32 x.ty, .int .u32 x.lim.1, .int .u32 x.lim.2.1, .bool x.lim.2.2, .int .u8 x.val, .bool x.mu] 103)).heap.size = wr1.heap.size + 1 := by simp
            have hf1 : Fr [] wr1 ((wr1.alloc (.cells #[.string (strOfNums x.mod), .string (strOfNums x.nam), .int .i64 x.kind, .int .u32 x.ty, .int .u32 x.lim.1, .int .u32 x.lim.2.1, .bool x.lim.2.2, .int .u8 x.val, .bool x.mu] 103)).alloc (.cells #[.string (strOfNums x.mod), .string (strOfNums x.nam), .int .i64 x.kind, .int .u32 x.ty, .int .u32 x.lim.1, .int .u32 x.lim.2.1, .bool x.lim.2.2, .int .u8 x.val, .bool x.mu] 106)) := ((Fr.refl [] wr1).alloc _).alloc _
            have hB := hF.size
            obtain ⟨p, s, w4, hrun, hR4, hfr4, -⟩ := hR.nx (x := x) (c := [.string (strOfNums x.mod), .string (strOfNums x.nam), .int .i64 x.kind, .int .u32 x.ty, .int .u32 x.lim.1, .int .u32 x.lim.2.1, .bool x.lim.2.2, .int .u8 x.val, .bool x.mu]) (o := ⟨wr1.heap.size + 1, 0, none⟩) Tryz.underlying39 iIm zeroIm sizeIm bytesIm (by decide) rfl hf1 hB (by omega) hat rfl (fun j u hj => by rw [← hs, add_off, Nat.zero_add, World.cell?_alloc_new]; simpa using hj)
            have hown := fun g hg => World.ownsRow.lt hR.own g hg
            have hV4 := (hV.fr hf1 (by simp)).fr hfr4 (fun hm => by have := (hown tb (by simpa using hm)).1; omega)
            have hF4 := (hF.thenL hf1 (by simp)).thenL hfr4 (fun b hb => .inr (hown b (by simpa using hb)).1)
            have gT := (hV.fr (Fr.of (below1 wr1 (.cells #[.string (strOfNums x.mod), .string (strOfNums x.nam), .int .i64 x.kind, .int .u32 x.ty, .int .u32 x.lim.1, .int .u32 x.lim.2.1, .bool x.lim.2.2, .int .u8 x.val, .bool x.mu] 103)) []) (by simp)).tab 1 _ rfl
            obtain ⟨⟨z, gz⟩, fz⟩ := hV4.room 1 (by decide)
            have fA : Fr [tb] w4 (w4.setCell ⟨tb, 1, none⟩ (.slice p (i + 1) s)) := (Fr.refl _ _).place _ _
            have HR5 := hide (hR4.fr fA (fun j hj => by simp at hj; subst hj; exact ⟨fun q => by have := (World.ownsRow.lt hR4.own _ q).1; omega, fun q => by rcases q with q | q; have := q.1.2; omega; omega⟩) (fun q => q))
            have HV5 := hide (hV4.set 1 (.slice p (i + 1) s))
            have HF5 := hide (hF4.thenL fA (by simp))
            have HRun := hide hrun
            clear hrun hR4 hfr4 hf1 hs k1 hR hF hV hV4 hF4 fA hown hB hFw
            go_wp2_with (at_builtin; refine wpList_appT (w := ((wr1.alloc (.cells #[.string (strOfNums x.mod), .string (strOfNums x.nam), .int .i64 x.kind, .int .u32 x.ty, .int .u32 x.lim.1, .int .u32 x.lim.2.1, .bool x.lim.2.2, .int .u8 x.val, .bool x.mu] 103)).alloc (.cells #[.string (strOfNums x.mod), .string (strOfNums x.nam), .int .i64 x.kind, .int .u32 x.ty, .int .u32 x.lim.1, .int .u32 x.lim.2.1, .bool x.lim.2.2, .int .u8 x.val, .bool x.mu] 106))) (t := 39) (by rfl) rfl rfl (unhide HRun) ?_)
            exact ⟨⟨i + 1, _, _, by omega, by go_num, unhide HR5, unhide HV5, unhide HF5⟩, by simp [intOf]; omega⟩
          · obtain rfl : i = m.imps.length := by omega
            rw [List.take_length] at hR
            have HPn := hide ((unhide HP).put1 m hF hV hR rfl (mm' := { types := m.types, imps := m.imps, funcs := [], tabs := m.tabs, mems := m.mems, globs := [], exps := [], starts := m.starts, start := m.start, elems := [], datas := [] }) rfl)
            replace HP := HPn
            clear HPn hR hV hF htb hlo hwz hlt hi H1
            have g6 := (unhide HP).old.tab 6 _ rfl
            have htb := (unhide HP).vr.lt
            have hlo := (unhide HP).lo
            have hwz := (unhide HP).fr.size
            go_wp2_with fail
            clear g6
            go_loopw [76] (fun vi6 wr6 => ∃ (i : Nat) (cs : List Value) (v : Value), i ≤ m.exps.length ∧ vi6 = .int .i64 (i : Int) ∧ Rye eEx (fun b => P b ∧ b < W.heap.size) 109 wr1.heap.size v (m.exps.take i) cs 0 wr6 ∧ Vr tb 11 [.slice pp0 m.types.length ss0, .slice pp1 m.imps.length ss1, .slice none 0 0, u3, u4, .slice none 0 0, v, .bool m.starts, .int .u32 m.start, .slice none 0 0, .slice none 0 0] wr6 ∧ Fr [tb] wr1 wr6) (fun vi6 _ => m.exps.length - (intOf vi6).toNat)
            case atStart => exact ⟨0, [], .slice none 0 0, by omega, rfl, rye_nil _ _ _ _ _ _, (unhide HP).vr, Fr.refl _ _⟩
            case round =>
              generalize wr = wr6 at *
              obtain ⟨i, cs, v, hi, rfl, hR, hV, hF⟩ := hrel
              obtain ⟨pp6, ss6, rfl⟩ := hR.slice_i hi
              by_cases hlt : i < m.exps.length
              · rcases unhide H6 with h0 | ⟨b1, o1, rfl, hb1, k1⟩
                · omega
                have hat := List.getElem?_eq_getElem hlt
                have hi' : (i : Int) < (m.exps.length : Int) := by omega
                have hi2 : (0 : Int) ≤ (i : Int) := by omega
                obtain ⟨_, hrep, k1⟩ := k1 i m.exps[i] hat
                generalize m.exps[i] = x at *
                have hFw := (unhide HP).up hF
                have hnn := (unhide HM).exps
                obtain rfl := hrep
                have g10 := hFw.keep (k1 0 (by decide)) (by simp)
                change wr6.cell? ⟨b1, o1 + i * 3, none⟩ = some (.string (strOfNums x.1)) at g10
                have g11 := hFw.keep (k1 1 (by decide)) (by simp)
                change wr6.cell? ⟨b1, o1 + i * 3 + 1, none⟩ = some (.int .i64 x.2.1) at g11
                have g12 := hFw.keep (k1 2 (by decide)) (by simp)
                change wr6.cell? ⟨b1, o1 + i * 3 + 2, none⟩ = some (.int .u32 x.2.2) at g12
                have hs : (wr6.alloc (.cells #[.string (strOfNums x.1), .int .i64 x.2.1, .int .u32 x.2.2] 108)).heap.size = wr6.heap.size + 1 := by simp
                have hf1 : Fr [] wr6 ((wr6.alloc (.cells #[.string (strOfNums x.1), .int .i64 x.2.1, .int .u32 x.2.2] 108)).alloc (.cells #[.string (strOfNums x.1), .int .i64 x.2.1, .int .u32 x.2.2] 109)) := ((Fr.refl [] wr6).alloc _).alloc _
                have hB := hF.size
                obtain ⟨p, s, w4, hrun, hR4, hfr4, -⟩ := hR.nx (x := x) (c := [.string (strOfNums x.1), .int .i64 x.2.1, .int .u32 x.2.2]) (o := ⟨wr6.heap.size + 1, 0, none⟩) Tryz.underlying43 iEx zeroEx sizeEx bytesEx (by decide) rfl hf1 hB (by omega) hat rfl (fun j u hj => by rw [← hs, add_off, Nat.zero_add, World.cell?_alloc_new]; simpa using hj)
                have hown := fun g hg => World.ownsRow.lt hR.own g hg
                have hV4 := (hV.fr hf1 (by simp)).fr hfr4 (fun hm => by have := (hown tb (by simpa using hm)).1; omega)
                have hF4 := (hF.thenL hf1 (by simp)).thenL hfr4 (fun b hb => .inr (hown b (by simpa using hb)).1)
                have gT := (hV.fr (Fr.of (below1 wr6 (.cells #[.string (strOfNums x.1), .int .i64 x.2.1, .int .u32 x.2.2] 108)) []) (by simp)).tab 6 _ rfl
                obtain ⟨⟨z, gz⟩, fz⟩ := hV4.room 6 (by decide)
                have fA : Fr [tb] w4 (w4.setCell ⟨tb, 6, none⟩ (.slice p (i + 1) s)) := (Fr.refl _ _).place _ _
                have HR5 := hide (hR4.fr fA (fun j hj => by simp at hj; subst hj; exact ⟨fun q => by have := (World.ownsRow.lt hR4.own _ q).1; omega, fun q => by rcases q with q | q; have := q.1.2; omega; omega⟩) (fun q => q))
                have HV5 := hide (hV4.set 6 (.slice p (i + 1) s))
                have HF5 := hide (hF4.thenL fA (by simp))
                have HRun := hide hrun
                clear hrun hR4 hfr4 hf1 hs k1 hR hF hV hV4 hF4 fA hown hB hFw
                go_wp2_with (at_builtin; refine wpList_appT (w := ((wr6.alloc (.cells #[.string (strOfNums x.1), .int .i64 x.2.1, .int .u32 x.2.2] 108)).alloc (.cells #[.string (strOfNums x.1), .int .i64 x.2.1, .int .u32 x.2.2] 109))) (t := 43) (by rfl) rfl rfl (unhide HRun) ?_)
                exact ⟨⟨i + 1, _, _, by omega, by go_num, unhide HR5, unhide HV5, unhide HF5⟩, by simp [intOf]; omega⟩
              · obtain rfl : i = m.exps.length := by omega
                rw [List.take_length] at hR
                have HPn := hide ((unhide HP).put6 m hF hV hR rfl (mm' := { types := m.types, imps := m.imps, funcs := [], tabs := m.tabs, mems := m.mems, globs := [], exps := m.exps, starts := m.starts, start := m.start, elems := [], datas := [] }) rfl)
                replace HP := HPn
                clear HPn hR hV hF htb hlo hwz hlt hi H6
                have g2 := (unhide HP).old.tab 2 _ rfl
                have htb := (unhide HP).vr.lt
                have hlo := (unhide HP).lo
                have hwz := (unhide HP).fr.size
                go_wp2_with fail
                clear g2
                go_loopw [90] (fun vi2 wr2 => ∃ (i : Nat) (cs : List Value) (v : Value), i ≤ m.funcs.length ∧ vi2 = .int .i64 (i : Int) ∧ Rye eFn (fun b => P b ∧ b < W.heap.size) 85 wr6.heap.size v (m.funcs.take i) cs 0 wr2 ∧ Vr tb 11 [.slice pp0 m.types.length ss0, .slice pp1 m.imps.length ss1, v, u3, u4, .slice none 0 0, .slice pp6 m.exps.length ss6, .bool m.starts, .int .u32 m.start, .slice none 0 0, .slice none 0 0] wr2 ∧ Fr [tb] wr6 wr2) (fun vi2 _ => m.funcs.length - (intOf vi2).toNat)
                case atStart => exact ⟨0, [], .slice none 0 0, by omega, rfl, rye_nil _ _ _ _ _ _, (unhide HP).vr, Fr.refl _ _⟩
                case round =>
                  generalize wr = wr2 at *
                  obtain ⟨i, cs, v, hi, rfl, hR, hV, hF⟩ := hrel
                  obtain ⟨pp2, ss2, rfl⟩ := hR.slice_i hi
                  by_cases hlt : i < m.funcs.length
                  · rcases unhide H2 with h0 | ⟨b1, o1, rfl, hb1, k1⟩
                    · omega
                    have hat := List.getElem?_eq_getElem hlt
                    have hi' : (i : Int) < (m.funcs.length : Int) := by omega
                    have hi2 : (0 : Int) ≤ (i : Int) := by omega
                    obtain ⟨_, hrep, k1⟩ := k1 i m.funcs[i] hat
                    generalize m.funcs[i] = x at *
                    have hFw := (unhide HP).up hF
                    have hnn := (unhide HM).funcs
                    obtain ⟨w1, w2, rfl, hw1, hw2⟩ := id hrep
                    obtain ⟨a1, c1, rfl, -, -, -⟩ := id hw1
                    obtain ⟨a2, c2, rfl, -⟩ := hw2.open2
                    have g10 := hFw.keep (k1 0 (by decide)) (by simp)
                    change wr2.cell? ⟨b1, o1 + i * 3, none⟩ = some (.int .u32 x.1) at g10
                    have g11 := hFw.keep (k1 1 (by decide)) (by simp)
                    change wr2.cell? ⟨b1, o1 + i * 3 + 1, none⟩ = some (.slice a1 x.2.1.length c1) at g11
                    have g12 := hFw.keep (k1 2 (by decide)) (by simp)
                    change wr2.cell? ⟨b1, o1 + i * 3 + 2, none⟩ = some (.slice a2 x.2.2.len c2) at g12
                    have hsz := (unhide HM).bodies x (List.mem_of_getElem? hat) |>.1
                    have hf1 : Fr [] wr2 (wr2.alloc (.cells #[.int .u32 x.1, .slice a1 x.2.1.length c1, .slice a2 x.2.2.len c2] 112)) := (Fr.refl [] wr2).alloc _
                    have hq := vr_new [.int .u32 x.1, .slice a1 x.2.1.length c1, .slice a2 x.2.2.len c2] 112 wr2
                    have HR0 := hide hR
                    have HV0 := hide hV
                    have HF0 := hide hF
                    have HW0 := hide hFw
                    have HQ0 := hide hq
                    have hf1 := hide hf1
                    have HE0 := hide hw2
                    have HO0 := hide hw1
                    clear hR hV hF hFw hq k1 hrep hw2 hw1
                    go_wp2_with fail
                    clear g10 g11 g12
                    have hf2 := (unhide hf1).trans (Fr.refl [] (wr2.alloc (.cells #[.int .u32 x.1, .slice a1 x.2.1.length c1, .slice a2 x.2.2.len c2] 112))).drew
                    have hq2 := (unhide HQ0).fr (Fr.refl [] (wr2.alloc (.cells #[.int .u32 x.1, .slice a1 x.2.1.length c1, .slice a2 x.2.2.len c2] 112))).drew (by simp)
                    refine wp_region_held_drew (S := fun w' => w'.cell? ⟨wr2.heap.size, 0, none⟩ = some (.int .u32 x.1) ∧ w'.cell? ⟨wr2.heap.size, 1, none⟩ = some (.slice a1 x.2.1.length c1) ∧ w'.cell? ⟨wr2.heap.size, 2, none⟩ = some (.slice a2 x.2.2.len c2)) (by kernel_rfl) ?_ (fun hHeld => ?_)
                    · (try dsimp only)
                      exact ⟨hq2.tab 0 _ rfl, hq2.tab 1 _ rfl, hq2.tab 2 _ rfl⟩
                    have hF := (unhide HF0).thenL hf2 (by simp)
                    have hR := (unhide HR0).fr0 hf2 (fun q => q)
                    have hV := (unhide HV0).fr hf2 (by simp)
                    have hW := (unhide HW0).trans hf2
                    have hql := hq2.lt
                    have hown := hide (fun g hg => World.ownsRow.lt (unhide HR0).own g hg)
                    have hxz := (unhide HF0).size
                    clear HF0 HR0 HV0 HW0 HQ0 hf1
                    generalize (wr2.alloc (.cells #[.int .u32 x.1, .slice a1 x.2.1.length c1, .slice a2 x.2.2.len c2] 112)).drew = w2 at *
                    have hsz2 := hf2.size
                    have HR := hide hR
                    have HV := hide hV
                    have HF := hide hF
                    have HQ := hide hq2
                    have HE := hide ((unhide HE0).fr hW (by simp))
                    have HO := hide ((unhide HO0).fr hW (by simp))
                    clear hR hV hF hW hq2 hf2 HE0 HO0
                    refine lst0 14 (by kernel_rfl) ?_
                    refine tkA 0 94 1 ?_
                    refine tkA 2 96 5 ?_
                    refine tkA 3 97 13 ?_
                    refine tkA 4 98 29 ?_
                    refine tkA 5 99 61 ?_
                    refine tkA 6 100 125 ?_
                    refine tkA 7 101 253 ?_
                    refine rdB 1 8 255 509 (fun Kk hKk => ?_) (fun Kk hKk => ?_)
                    · have gT := (unhide HV).tab 2 _ rfl
                      go_simp
                      refine hKk.out _ _ ?_ (fun hHeld => ?_)
                      · (try dsimp only)
                        exact ⟨(unhide HQ).tab 0 _ rfl, (unhide HQ).tab 1 _ rfl, (unhide HQ).tab 2 _ rfl⟩
                      clear hKk Kk gT
                      (try simp only [List.setIfInBounds_toArray, List.set_cons_zero, List.set_cons_succ])
                      refine rdA 8 511 (fun Kk hKk => ?_)
                      go_simp
                      refine (plain_any (x.2.2.size + 1) x.2.2 (fun b => P b ∧ b < W.heap.size) (.slice a2 x.2.2.len c2) _ (Nat.lt_succ_self _) (by omega) (unhide HE)).mono ?_
                      rintro _ w3 ⟨p3, s3, rfl, hV3, hF3⟩
                      have hsz3 := hF3.size
                      have HQ3 := hide ((unhide HQ).fr hF3 (by simp))
                      have HV3 := hide ((unhide HV).fr hF3 (by simp))
                      have HF3 := hide ((unhide HF).thenL hF3 (by simp))
                      have hR3 := (unhide HR).fr0 hF3 (e' := 0) (fun q => q)
                      obtain ⟨p, s, w4, hrun, hR4, hfr4, -⟩ := hR3.nx (x := x) (c := [.int .u32 x.1, .slice a1 x.2.1.length c1, .slice p3 x.2.2.len s3]) (o := ⟨w3.heap.size, 0, none⟩) Tryz.underlying40 iFn zeroFn sizeFn bytesFn (by decide) rfl (Fr.of (below1 w3 (.cells #[.int .u32 x.1, .slice a1 x.2.1.length c1, .slice p3 x.2.2.len s3] 85)) []) (by omega) (by omega) hat (⟨_, _, rfl, ((unhide HO).fr hF3 (by simp)).fr (Fr.of (below1 w3 (.cells #[.int .u32 x.1, .slice a1 x.2.1.length c1, .slice p3 x.2.2.len s3] 85)) []) (by simp) |>.mono (fun b _ q => .inl ⟨q, by have := q.2; omega⟩), (hV3.fr (Fr.of (below1 w3 (.cells #[.int .u32 x.1, .slice a1 x.2.1.length c1, .slice p3 x.2.2.len s3] 85)) []) (by simp)).mono (fun b _ q => by rcases q with q | q; exact .inl ⟨q.1, by have := q.1.2; omega⟩; exact .inr ⟨by omega, fun hb => by have := (unhide hown b hb).2; omega⟩)⟩) (fun j u hj => by rw [add_off, Nat.zero_add, World.cell?_alloc_new]; simpa using hj)
                      have HRun := hide hrun
                      have HR4 := hide hR4
                      have HV4 := hide (((unhide HV3).fr (Fr.of (below1 w3 (.cells #[.int .u32 x.1, .slice a1 x.2.1.length c1, .slice p3 x.2.2.len s3] 85)) []) (by simp)).fr hfr4 (fun hm => by have := (unhide hown tb (by simpa using hm)).1; omega))
                      have HF4 := hide (((unhide HF3).thenL (Fr.of (below1 w3 (.cells #[.int .u32 x.1, .slice a1 x.2.1.length c1, .slice p3 x.2.2.len s3] 85)) []) (by simp)).thenL hfr4 (fun b hb => .inr (unhide hown b (by simpa using hb)).1))
                      have HQ3b := hide ((unhide HQ3).fr (Fr.of (below1 w3 (.cells #[.int .u32 x.1, .slice a1 x.2.1.length c1, .slice p3 x.2.2.len s3] 85)) []) (by simp))
                      have HQ4 := hide ((unhide HQ3b).fr hfr4 (fun hm => by have := (unhide hown _ (by simpa using hm)).2; omega))
                      have HV3b := hide ((unhide HV3).fr (Fr.of (below1 w3 (.cells #[.int .u32 x.1, .slice a1 x.2.1.length c1, .slice p3 x.2.2.len s3] 85)) []) (by simp))
                      clear hrun hR3 hR4 hfr4 hV3 hF3 HR HV HF
                      (try go_wp2_with fail)
                      refine hKk.out _ _ ?_ (fun hHeld => ?_)
                      · (try dsimp only)
                        exact ⟨(unhide HQ3).tab 0 _ rfl, (unhide HQ3).tab 1 _ rfl, (unhide HQ3).tab 2 _ rfl⟩
                      clear hKk Kk
                      (try simp only [List.setIfInBounds_toArray, List.set_cons_zero, List.set_cons_succ])
                      refine tkA 9 103 1023 ?_
                      refine rdA 10 2047 (fun Kk hKk => ?_)
                      go_simp
                      refine hKk.out _ _ ?_ (fun hHeld => ?_)
                      · (try dsimp only)
                        exact ⟨(unhide HQ3b).tab 0 _ rfl, (unhide HQ3b).tab 1 _ rfl, (unhide HQ3b).tab 2 _ rfl⟩
                      clear hKk Kk
                      (try simp only [List.setIfInBounds_toArray, List.set_cons_zero, List.set_cons_succ])
                      refine rdA 11 4095 (fun Kk hKk => ?_)
                      rw [if_pos (by rfl)]
                      refine oper_app (by rfl) (by rfl) (unhide HRun) ?_
                      refine hKk.out _ _ ?_ (fun hHeld => ?_)
                      · (try dsimp only)
                        exact ⟨(unhide HQ4).tab 0 _ rfl, (unhide HQ4).tab 1 _ rfl, (unhide HQ4).tab 2 _ rfl⟩
                      clear hKk Kk
                      (try simp only [List.setIfInBounds_toArray, List.set_cons_zero, List.set_cons_succ])
                      refine tkA 12 106 8191 ?_
                      obtain ⟨⟨z, gz⟩, fz⟩ := (unhide HV4).room 2 (by decide)
                      refine rdA 13 16383 (fun Kk hKk => ?_)
                      go_simp
                      have fA : Fr [tb] w4 (w4.setCell ⟨tb, 2, none⟩ (.slice p (i + 1) s)) := (Fr.refl _ _).place _ _
                      have hQ5 := (unhide HQ4).fr fA (by simp; omega)
                      refine hKk.out _ _ ?_ (fun hHeld => ?_)
                      · (try dsimp only)
                        exact ⟨hQ5.tab 0 _ rfl, hQ5.tab 1 _ rfl, hQ5.tab 2 _ rfl⟩
                      clear hKk Kk
                      (try simp only [List.setIfInBounds_toArray, List.set_cons_zero, List.set_cons_succ])
                      have HR5 := hide ((unhide HR4).fr fA (fun j hj => by simp at hj; subst hj; exact ⟨fun q => by have := (World.ownsRow.lt (unhide HR4).own _ q).1; omega, fun q => by rcases q with q | q; have := q.1.2; omega; omega⟩) (fun q => q))
                      have HV5 := hide ((unhide HV4).set 2 (.slice p (i + 1) s))
                      have HF5 := hide ((unhide HF4).thenL fA (by simp))
                      clear gz fz z fA hQ5
                      refine wpAnyH_done (by kernel_rfl) ?_ _
                      go_wp2_with fail
                      exact ⟨⟨i + 1, _, _, by omega, by go_num, unhide HR5, unhide HV5, unhide HF5⟩, by simp [intOf]; omega⟩
                    · go_simp
                      refine (plain_any (x.2.2.size + 1) x.2.2 (fun b => P b ∧ b < W.heap.size) (.slice a2 x.2.2.len c2) _ (Nat.lt_succ_self _) (by omega) (unhide HE)).mono ?_
                      rintro _ w3 ⟨p3, s3, rfl, hV3, hF3⟩
                      have hsz3 := hF3.size
                      have HQ3 := hide ((unhide HQ).fr hF3 (by simp))
                      have HV3 := hide ((unhide HV).fr hF3 (by simp))
                      have HF3 := hide ((unhide HF).thenL hF3 (by simp))
                      have hR3 := (unhide HR).fr0 hF3 (e' := 0) (fun q => q)
                      obtain ⟨p, s, w4, hrun, hR4, hfr4, -⟩ := hR3.nx (x := x) (c := [.int .u32 x.1, .slice a1 x.2.1.length c1, .slice p3 x.2.2.len s3]) (o := ⟨w3.heap.size, 0, none⟩) Tryz.underlying40 iFn zeroFn sizeFn bytesFn (by decide) rfl (Fr.of (below1 w3 (.cells #[.int .u32 x.1, .slice a1 x.2.1.length c1, .slice p3 x.2.2.len s3] 85)) []) (by omega) (by omega) hat (⟨_, _, rfl, ((unhide HO).fr hF3 (by simp)).fr (Fr.of (below1 w3 (.cells #[.int .u32 x.1, .slice a1 x.2.1.length c1, .slice p3 x.2.2.len s3] 85)) []) (by simp) |>.mono (fun b _ q => .inl ⟨q, by have := q.2; omega⟩), (hV3.fr (Fr.of (below1 w3 (.cells #[.int .u32 x.1, .slice a1 x.2.1.length c1, .slice p3 x.2.2.len s3] 85)) []) (by simp)).mono (fun b _ q => by rcases q with q | q; exact .inl ⟨q.1, by have := q.1.2; omega⟩; exact .inr ⟨by omega, fun hb => by have := (unhide hown b hb).2; omega⟩)⟩) (fun j u hj => by rw [add_off, Nat.zero_add, World.cell?_alloc_new]; simpa using hj)
                      have HRun := hide hrun
                      have HR4 := hide hR4
                      have HV4 := hide (((unhide HV3).fr (Fr.of (below1 w3 (.cells #[.int .u32 x.1, .slice a1 x.2.1.length c1, .slice p3 x.2.2.len s3] 85)) []) (by simp)).fr hfr4 (fun hm => by have := (unhide hown tb (by simpa using hm)).1; omega))
                      have HF4 := hide (((unhide HF3).thenL (Fr.of (below1 w3 (.cells #[.int .u32 x.1, .slice a1 x.2.1.length c1, .slice p3 x.2.2.len s3] 85)) []) (by simp)).thenL hfr4 (fun b hb => .inr (unhide hown b (by simpa using hb)).1))
                      have HQ3b := hide ((unhide HQ3).fr (Fr.of (below1 w3 (.cells #[.int .u32 x.1, .slice a1 x.2.1.length c1, .slice p3 x.2.2.len s3] 85)) []) (by simp))
                      have HQ4 := hide ((unhide HQ3b).fr hfr4 (fun hm => by have := (unhide hown _ (by simpa using hm)).2; omega))
                      have HV3b := hide ((unhide HV3).fr (Fr.of (below1 w3 (.cells #[.int .u32 x.1, .slice a1 x.2.1.length c1, .slice p3 x.2.2.len s3] 85)) []) (by simp))
                      clear hrun hR3 hR4 hfr4 hV3 hF3 HR HV HF
                      (try go_wp2_with fail)
                      refine hKk.out _ _ ?_ (fun hHeld => ?_)
                      · (try dsimp only)
                        exact ⟨(unhide HQ3).tab 0 _ rfl, (unhide HQ3).tab 1 _ rfl, (unhide HQ3).tab 2 _ rfl⟩
                      clear hKk Kk
                      (try simp only [List.setIfInBounds_toArray, List.set_cons_zero, List.set_cons_succ])
                      refine tkA 9 103 1021 ?_
                      refine rdB 1 10 1023 2045 (fun Kk hKk => ?_) (fun Kk hKk => ?_)
                      · have gT := (unhide HV3).tab 2 _ rfl
                        go_simp
                        refine hKk.out _ _ ?_ (fun hHeld => ?_)
                        · (try dsimp only)
                          exact ⟨(unhide HQ3).tab 0 _ rfl, (unhide HQ3).tab 1 _ rfl, (unhide HQ3).tab 2 _ rfl⟩
                        clear hKk Kk gT
                        (try simp only [List.setIfInBounds_toArray, List.set_cons_zero, List.set_cons_succ])
                        refine rdA 10 2047 (fun Kk hKk => ?_)
                        go_simp
                        refine hKk.out _ _ ?_ (fun hHeld => ?_)
                        · (try dsimp only)
                          exact ⟨(unhide HQ3b).tab 0 _ rfl, (unhide HQ3b).tab 1 _ rfl, (unhide HQ3b).tab 2 _ rfl⟩
                        clear hKk Kk
                        (try simp only [List.setIfInBounds_toArray, List.set_cons_zero, List.set_cons_succ])
                        refine rdA 11 4095 (fun Kk hKk => ?_)
                        rw [if_pos (by rfl)]
                        refine oper_app (by rfl) (by rfl) (unhide HRun) ?_
                        refine hKk.out _ _ ?_ (fun hHeld => ?_)
                        · (try dsimp only)
                          exact ⟨(unhide HQ4).tab 0 _ rfl, (unhide HQ4).tab 1 _ rfl, (unhide HQ4).tab 2 _ rfl⟩
                        clear hKk Kk
                        (try simp only [List.setIfInBounds_toArray, List.set_cons_zero, List.set_cons_succ])
                        refine tkA 12 106 8191 ?_
                        obtain ⟨⟨z, gz⟩, fz⟩ := (unhide HV4).room 2 (by decide)
                        refine rdA 13 16383 (fun Kk hKk => ?_)
                        go_simp
                        have fA : Fr [tb] w4 (w4.setCell ⟨tb, 2, none⟩ (.slice p (i + 1) s)) := (Fr.refl _ _).place _ _
                        have hQ5 := (unhide HQ4).fr fA (by simp; omega)
                        refine hKk.out _ _ ?_ (fun hHeld => ?_)
                        · (try dsimp only)
                          exact ⟨hQ5.tab 0 _ rfl, hQ5.tab 1 _ rfl, hQ5.tab 2 _ rfl⟩
                        clear hKk Kk
                        (try simp only [List.setIfInBounds_toArray, List.set_cons_zero, List.set_cons_succ])
                        have HR5 := hide ((unhide HR4).fr fA (fun j hj => by simp at hj; subst hj; exact ⟨fun q => by have := (World.ownsRow.lt (unhide HR4).own _ q).1; omega, fun q => by rcases q with q | q; have := q.1.2; omega; omega⟩) (fun q => q))
                        have HV5 := hide ((unhide HV4).set 2 (.slice p (i + 1) s))
                        have HF5 := hide ((unhide HF4).thenL fA (by simp))
                        clear gz fz z fA hQ5
                        refine wpAnyH_done (by kernel_rfl) ?_ _
                        go_wp2_with fail
                        exact ⟨⟨i + 1, _, _, by omega, by go_num, unhide HR5, unhide HV5, unhide HF5⟩, by simp [intOf]; omega⟩
                      · go_simp
                        refine hKk.out _ _ ?_ (fun hHeld => ?_)
                        · (try dsimp only)
                          exact ⟨(unhide HQ3b).tab 0 _ rfl, (unhide HQ3b).tab 1 _ rfl, (unhide HQ3b).tab 2 _ rfl⟩
                        clear hKk Kk
                        (try simp only [List.setIfInBounds_toArray, List.set_cons_zero, List.set_cons_succ])
                        refine rdA 1 2047 (fun Kk hKk => ?_)
                        have gT := (unhide HV3b).tab 2 _ rfl
                        go_simp
                        refine hKk.out _ _ ?_ (fun hHeld => ?_)
                        · (try dsimp only)
                          exact ⟨(unhide HQ3b).tab 0 _ rfl, (unhide HQ3b).tab 1 _ rfl, (unhide HQ3b).tab 2 _ rfl⟩
                        clear hKk Kk gT
                        (try simp only [List.setIfInBounds_toArray, List.set_cons_zero, List.set_cons_succ])
                        refine rdA 11 4095 (fun Kk hKk => ?_)
                        rw [if_pos (by rfl)]
                        refine oper_app (by rfl) (by rfl) (unhide HRun) ?_
                        refine hKk.out _ _ ?_ (fun hHeld => ?_)
                        · (try dsimp only)
                          exact ⟨(unhide HQ4).tab 0 _ rfl, (unhide HQ4).tab 1 _ rfl, (unhide HQ4).tab 2 _ rfl⟩
                        clear hKk Kk
                        (try simp only [List.setIfInBounds_toArray, List.set_cons_zero, List.set_cons_succ])
                        refine tkA 12 106 8191 ?_
                        obtain ⟨⟨z, gz⟩, fz⟩ := (unhide HV4).room 2 (by decide)
                        refine rdA 13 16383 (fun Kk hKk => ?_)
                        go_simp
                        have fA : Fr [tb] w4 (w4.setCell ⟨tb, 2, none⟩ (.slice p (i + 1) s)) := (Fr.refl _ _).place _ _
                        have hQ5 := (unhide HQ4).fr fA (by simp; omega)
                        refine hKk.out _ _ ?_ (fun hHeld => ?_)
                        · (try dsimp only)
                          exact ⟨hQ5.tab 0 _ rfl, hQ5.tab 1 _ rfl, hQ5.tab 2 _ rfl⟩
                        clear hKk Kk
                        (try simp only [List.setIfInBounds_toArray, List.set_cons_zero, List.set_cons_succ])
                        have HR5 := hide ((unhide HR4).fr fA (fun j hj => by simp at hj; subst hj; exact ⟨fun q => by have := (World.ownsRow.lt (unhide HR4).own _ q).1; omega, fun q => by rcases q with q | q; have := q.1.2; omega; omega⟩) (fun q => q))
                        have HV5 := hide ((unhide HV4).set 2 (.slice p (i + 1) s))
                        have HF5 := hide ((unhide HF4).thenL fA (by simp))
                        clear gz fz z fA hQ5
                        refine wpAnyH_done (by kernel_rfl) ?_ _
                        go_wp2_with fail
                        exact ⟨⟨i + 1, _, _, by omega, by go_num, unhide HR5, unhide HV5, unhide HF5⟩, by simp [intOf]; omega⟩
                  · obtain rfl : i = m.funcs.length := by omega
                    rw [List.take_length] at hR
                    have HPn := hide ((unhide HP).put2 m hF hV hR rfl (mm' := { types := m.types, imps := m.imps, funcs := m.funcs, tabs := m.tabs, mems := m.mems, globs := [], exps := m.exps, starts := m.starts, start := m.start, elems := [], datas := [] }) rfl)
                    replace HP := HPn
                    clear HPn hR hV hF htb hlo hwz hlt hi H2
                    have g5 := (unhide HP).old.tab 5 _ rfl
                    have htb := (unhide HP).vr.lt
                    have hlo := (unhide HP).lo
                    have hwz := (unhide HP).fr.size
                    go_wp2_with fail
                    clear g5
                    go_loopw [111] (fun vi5 wr5 => ∃ (i : Nat) (cs : List Value) (v : Value), i ≤ m.globs.length ∧ vi5 = .int .i64 (i : Int) ∧ Rye eCe (fun b => P b ∧ b < W.heap.size) 117 wr2.heap.size v (m.globs.take i) cs 0 wr5 ∧ Vr tb 11 [.slice pp0 m.types.length ss0, .slice pp1 m.imps.length ss1, .slice pp2 m.funcs.length ss2, u3, u4, v, .slice pp6 m.exps.length ss6, .bool m.starts, .int .u32 m.start, .slice none 0 0, .slice none 0 0] wr5 ∧ Fr [tb] wr2 wr5) (fun vi5 _ => m.globs.length - (intOf vi5).toNat)
                    case atStart => exact ⟨0, [], .slice none 0 0, by omega, rfl, rye_nil _ _ _ _ _ _, (unhide HP).vr, Fr.refl _ _⟩
                    case round =>
                      generalize wr = wr5 at *
                      obtain ⟨i, cs, v, hi, rfl, hR, hV, hF⟩ := hrel
                      obtain ⟨pp5, ss5, rfl⟩ := hR.slice_i hi
                      by_cases hlt : i < m.globs.length
                      · rcases unhide H5 with h0 | ⟨b1, o1, rfl, hb1, k1⟩
                        · omega
                        have hat := List.getElem?_eq_getElem hlt
                        have hi' : (i : Int) < (m.globs.length : Int) := by omega
                        have hi2 : (0 : Int) ≤ (i : Int) := by omega
                        obtain ⟨_, hrep, k1⟩ := k1 i m.globs[i] hat
                        generalize m.globs[i] = x at *
                        have hFw := (unhide HP).up hF
                        have hnn := (unhide HM).globs
                        obtain ⟨w1, w2, rfl, hw1, hw2⟩ := id hrep
                        obtain rfl := id hw1
                        obtain ⟨a2, c2, rfl, -⟩ := hw2.open2
                        have g10 := hFw.keep (k1 0 (by decide)) (by simp)
                        change wr5.cell? ⟨b1, o1 + i * 3, none⟩ = some (.int .u8 x.1) at g10
                        have g11 := hFw.keep (k1 1 (by decide)) (by simp)
                        change wr5.cell? ⟨b1, o1 + i * 3 + 1, none⟩ = some (.bool x.2.1) at g11
                        have g12 := hFw.keep (k1 2 (by decide)) (by simp)
                        change wr5.cell? ⟨b1, o1 + i * 3 + 2, none⟩ = some (.slice a2 x.2.2.len c2) at g12
                        have hsz := (unhide HM).inits x (List.mem_of_getElem? hat) |>.1
                        have hf1 : Fr [] wr5 (wr5.alloc (.cells #[.int .u8 x.1, .bool x.2.1, .slice a2 x.2.2.len c2] 115)) := (Fr.refl [] wr5).alloc _
                        have hq := vr_new [.int .u8 x.1, .bool x.2.1, .slice a2 x.2.2.len c2] 115 wr5
                        have HR0 := hide hR
                        have HV0 := hide hV
                        have HF0 := hide hF
                        have HW0 := hide hFw
                        have HQ0 := hide hq
                        have hf1 := hide hf1
                        have HE0 := hide hw2
                        skip
                        clear hR hV hF hFw hq k1 hrep hw2 
                        go_wp2_with fail
                        clear g10 g11 g12
                        have hf2 := (unhide hf1).trans (Fr.refl [] (wr5.alloc (.cells #[.int .u8 x.1, .bool x.2.1, .slice a2 x.2.2.len c2] 115))).drew
                        have hq2 := (unhide HQ0).fr (Fr.refl [] (wr5.alloc (.cells #[.int .u8 x.1, .bool x.2.1, .slice a2 x.2.2.len c2] 115))).drew (by simp)
                        refine wp_region_held_drew (S := fun w' => w'.cell? ⟨wr5.heap.size, 0, none⟩ = some (.int .u8 x.1) ∧ w'.cell? ⟨wr5.heap.size, 1, none⟩ = some (.bool x.2.1) ∧ w'.cell? ⟨wr5.heap.size, 2, none⟩ = some (.slice a2 x.2.2.len c2)) (by kernel_rfl) ?_ (fun hHeld => ?_)
                        · (try dsimp only)
                          exact ⟨hq2.tab 0 _ rfl, hq2.tab 1 _ rfl, hq2.tab 2 _ rfl⟩
                        have hF := (unhide HF0).thenL hf2 (by simp)
                        have hR := (unhide HR0).fr0 hf2 (fun q => q)
                        have hV := (unhide HV0).fr hf2 (by simp)
                        have hW := (unhide HW0).trans hf2
                        have hql := hq2.lt
                        have hown := hide (fun g hg => World.ownsRow.lt (unhide HR0).own g hg)
                        have hxz := (unhide HF0).size
                        clear HF0 HR0 HV0 HW0 HQ0 hf1
                        generalize (wr5.alloc (.cells #[.int .u8 x.1, .bool x.2.1, .slice a2 x.2.2.len c2] 115)).drew = w2 at *
                        have hsz2 := hf2.size
                        have HR := hide hR
                        have HV := hide hV
                        have HF := hide hF
                        have HQ := hide hq2
                        have HE := hide ((unhide HE0).fr hW (by simp))
                        skip
                        clear hR hV hF hW hq2 hf2 HE0 
                        refine lst0 16 (by kernel_rfl) ?_
                        refine tkA 0 115 1 ?_
                        refine tkA 2 117 5 ?_
                        refine tkA 3 118 13 ?_
                        refine tkA 4 119 29 ?_
                        refine tkA 5 120 61 ?_
                        refine tkA 6 121 125 ?_
                        refine tkA 7 122 253 ?_
                        refine tkA 8 123 509 ?_
                        refine tkA 9 124 1021 ?_
                        refine rdB 1 10 1023 2045 (fun Kk hKk => ?_) (fun Kk hKk => ?_)
                        · have gT := (unhide HV).tab 5 _ rfl
                          go_simp
                          refine hKk.out _ _ ?_ (fun hHeld => ?_)
                          · (try dsimp only)
                            exact ⟨(unhide HQ).tab 0 _ rfl, (unhide HQ).tab 1 _ rfl, (unhide HQ).tab 2 _ rfl⟩
                          clear hKk Kk gT
                          (try simp only [List.setIfInBounds_toArray, List.set_cons_zero, List.set_cons_succ])
                          refine rdA 10 2047 (fun Kk hKk => ?_)
                          go_simp
                          refine (plain_any (x.2.2.size + 1) x.2.2 (fun b => P b ∧ b < W.heap.size) (.slice a2 x.2.2.len c2) _ (Nat.lt_succ_self _) (by omega) (unhide HE)).mono ?_
                          rintro _ w3 ⟨p3, s3, rfl, hV3, hF3⟩
                          have hsz3 := hF3.size
                          have HQ3 := hide ((unhide HQ).fr hF3 (by simp))
                          have HV3 := hide ((unhide HV).fr hF3 (by simp))
                          have HF3 := hide ((unhide HF).thenL hF3 (by simp))
                          have hR3 := (unhide HR).fr0 hF3 (e' := 0) (fun q => q)
                          obtain ⟨p, s, w4, hrun, hR4, hfr4, -⟩ := hR3.nx (x := x) (c := [.int .u8 x.1, .bool x.2.1, .slice p3 x.2.2.len s3]) (o := ⟨w3.heap.size, 0, none⟩) Tryz.underlying42 iCe zeroCe sizeCe bytesCe (by decide) rfl (Fr.of (below1 w3 (.cells #[.int .u8 x.1, .bool x.2.1, .slice p3 x.2.2.len s3] 117)) []) (by omega) (by omega) hat (⟨_, _, rfl, rfl, (hV3.fr (Fr.of (below1 w3 (.cells #[.int .u8 x.1, .bool x.2.1, .slice p3 x.2.2.len s3] 117)) []) (by simp)).mono (fun b _ q => by rcases q with q | q; exact .inl ⟨q.1, by have := q.1.2; omega⟩; exact .inr ⟨by omega, fun hb => by have := (unhide hown b hb).2; omega⟩)⟩) (fun j u hj => by rw [add_off, Nat.zero_add, World.cell?_alloc_new]; simpa using hj)
                          have HRun := hide hrun
                          have HR4 := hide hR4
                          have HV4 := hide (((unhide HV3).fr (Fr.of (below1 w3 (.cells #[.int .u8 x.1, .bool x.2.1, .slice p3 x.2.2.len s3] 117)) []) (by simp)).fr hfr4 (fun hm => by have := (unhide hown tb (by simpa using hm)).1; omega))
                          have HF4 := hide (((unhide HF3).thenL (Fr.of (below1 w3 (.cells #[.int .u8 x.1, .bool x.2.1, .slice p3 x.2.2.len s3] 117)) []) (by simp)).thenL hfr4 (fun b hb => .inr (unhide hown b (by simpa using hb)).1))
                          have HQ3b := hide ((unhide HQ3).fr (Fr.of (below1 w3 (.cells #[.int .u8 x.1, .bool x.2.1, .slice p3 x.2.2.len s3] 117)) []) (by simp))
                          have HQ4 := hide ((unhide HQ3b).fr hfr4 (fun hm => by have := (unhide hown _ (by simpa using hm)).2; omega))
                          have HV3b := hide ((unhide HV3).fr (Fr.of (below1 w3 (.cells #[.int .u8 x.1, .bool x.2.1, .slice p3 x.2.2.len s3] 117)) []) (by simp))
                          clear hrun hR3 hR4 hfr4 hV3 hF3 HR HV HF
                          (try go_wp2_with fail)
                          refine hKk.out _ _ ?_ (fun hHeld => ?_)
                          · (try dsimp only)
                            exact ⟨(unhide HQ3).tab 0 _ rfl, (unhide HQ3).tab 1 _ rfl, (unhide HQ3).tab 2 _ rfl⟩
                          clear hKk Kk
                          (try simp only [List.setIfInBounds_toArray, List.set_cons_zero, List.set_cons_succ])
                          refine tkA 11 126 4095 ?_
                          refine rdA 12 8191 (fun Kk hKk => ?_)
                          go_simp
                          refine hKk.out _ _ ?_ (fun hHeld => ?_)
                          · (try dsimp only)
                            exact ⟨(unhide HQ3b).tab 0 _ rfl, (unhide HQ3b).tab 1 _ rfl, (unhide HQ3b).tab 2 _ rfl⟩
                          clear hKk Kk
                          (try simp only [List.setIfInBounds_toArray, List.set_cons_zero, List.set_cons_succ])
                          refine rdA 13 16383 (fun Kk hKk => ?_)
                          rw [if_pos (by rfl)]
                          refine oper_app (by rfl) (by rfl) (unhide HRun) ?_
                          refine hKk.out _ _ ?_ (fun hHeld => ?_)
                          · (try dsimp only)
                            exact ⟨(unhide HQ4).tab 0 _ rfl, (unhide HQ4).tab 1 _ rfl, (unhide HQ4).tab 2 _ rfl⟩
                          clear hKk Kk
                          (try simp only [List.setIfInBounds_toArray, List.set_cons_zero, List.set_cons_succ])
                          refine tkA 14 129 32767 ?_
                          obtain ⟨⟨z, gz⟩, fz⟩ := (unhide HV4).room 5 (by decide)
                          refine rdA 15 65535 (fun Kk hKk => ?_)
                          go_simp
                          have fA : Fr [tb] w4 (w4.setCell ⟨tb, 5, none⟩ (.slice p (i + 1) s)) := (Fr.refl _ _).place _ _
                          have hQ5 := (unhide HQ4).fr fA (by simp; omega)
                          refine hKk.out _ _ ?_ (fun hHeld => ?_)
                          · (try dsimp only)
                            exact ⟨hQ5.tab 0 _ rfl, hQ5.tab 1 _ rfl, hQ5.tab 2 _ rfl⟩
                          clear hKk Kk
                          (try simp only [List.setIfInBounds_toArray, List.set_cons_zero, List.set_cons_succ])
                          have HR5 := hide ((unhide HR4).fr fA (fun j hj => by simp at hj; subst hj; exact ⟨fun q => by have := (World.ownsRow.lt (unhide HR4).own _ q).1; omega, fun q => by rcases q with q | q; have := q.1.2; omega; omega⟩) (fun q => q))
                          have HV5 := hide ((unhide HV4).set 5 (.slice p (i + 1) s))
                          have HF5 := hide ((unhide HF4).thenL fA (by simp))
                          clear gz fz z fA hQ5
                          refine wpAnyH_done (by kernel_rfl) ?_ _
                          go_wp2_with fail
                          exact ⟨⟨i + 1, _, _, by omega, by go_num, unhide HR5, unhide HV5, unhide HF5⟩, by simp [intOf]; omega⟩
                        · go_simp
                          refine (plain_any (x.2.2.size + 1) x.2.2 (fun b => P b ∧ b < W.heap.size) (.slice a2 x.2.2.len c2) _ (Nat.lt_succ_self _) (by omega) (unhide HE)).mono ?_
                          rintro _ w3 ⟨p3, s3, rfl, hV3, hF3⟩
                          have hsz3 := hF3.size
                          have HQ3 := hide ((unhide HQ).fr hF3 (by simp))
                          have HV3 := hide ((unhide HV).fr hF3 (by simp))
                          have HF3 := hide ((unhide HF).thenL hF3 (by simp))
                          have hR3 := (unhide HR).fr0 hF3 (e' := 0) (fun q => q)
                          obtain ⟨p, s, w4, hrun, hR4, hfr4, -⟩ := hR3.nx (x := x) (c := [.int .u8 x.1, .bool x.2.1, .slice p3 x.2.2.len s3]) (o := ⟨w3.heap.size, 0, none⟩) Tryz.underlying42 iCe zeroCe sizeCe bytesCe (by decide) rfl (Fr.of (below1 w3 (.cells #[.int .u8 x.1, .bool x.2.1, .slice p3 x.2.2.len s3] 117)) []) (by omega) (by omega) hat (⟨_, _, rfl, rfl, (hV3.fr (Fr.of (below1 w3 (.cells #[.int .u8 x.1, .bool x.2.1, .slice p3 x.2.2.len s3] 117)) []) (by simp)).mono (fun b _ q => by rcases q with q | q; exact .inl ⟨q.1, by have := q.1.2; omega⟩; exact .inr ⟨by omega, fun hb => by have := (unhide hown b hb).2; omega⟩)⟩) (fun j u hj => by rw [add_off, Nat.zero_add, World.cell?_alloc_new]; simpa using hj)
                          have HRun := hide hrun
                          have HR4 := hide hR4
                          have HV4 := hide (((unhide HV3).fr (Fr.of (below1 w3 (.cells #[.int .u8 x.1, .bool x.2.1, .slice p3 x.2.2.len s3] 117)) []) (by simp)).fr hfr4 (fun hm => by have := (unhide hown tb (by simpa using hm)).1; omega))
                          have HF4 := hide (((unhide HF3).thenL (Fr.of (below1 w3 (.cells #[.int .u8 x.1, .bool x.2.1, .slice p3 x.2.2.len s3] 117)) []) (by simp)).thenL hfr4 (fun b hb => .inr (unhide hown b (by simpa using hb)).1))
                          have HQ3b := hide ((unhide HQ3).fr (Fr.of (below1 w3 (.cells #[.int .u8 x.1, .bool x.2.1, .slice p3 x.2.2.len s3] 117)) []) (by simp))
                          have HQ4 := hide ((unhide HQ3b).fr hfr4 (fun hm => by have := (unhide hown _ (by simpa using hm)).2; omega))
                          have HV3b := hide ((unhide HV3).fr (Fr.of (below1 w3 (.cells #[.int .u8 x.1, .bool x.2.1, .slice p3 x.2.2.len s3] 117)) []) (by simp))
                          clear hrun hR3 hR4 hfr4 hV3 hF3 HR HV HF
                          (try go_wp2_with fail)
                          refine hKk.out _ _ ?_ (fun hHeld => ?_)
                          · (try dsimp only)
                            exact ⟨(unhide HQ3).tab 0 _ rfl, (unhide HQ3).tab 1 _ rfl, (unhide HQ3).tab 2 _ rfl⟩
                          clear hKk Kk
                          (try simp only [List.setIfInBounds_toArray, List.set_cons_zero, List.set_cons_succ])
                          refine tkA 11 126 4093 ?_
                          refine rdB 1 12 4095 8189 (fun Kk hKk => ?_) (fun Kk hKk => ?_)
                          · have gT := (unhide HV3).tab 5 _ rfl
                            go_simp
                            refine hKk.out _ _ ?_ (fun hHeld => ?_)
                            · (try dsimp only)
                              exact ⟨(unhide HQ3).tab 0 _ rfl, (unhide HQ3).tab 1 _ rfl, (unhide HQ3).tab 2 _ rfl⟩
                            clear hKk Kk gT
                            (try simp only [List.setIfInBounds_toArray, List.set_cons_zero, List.set_cons_succ])
                            refine rdA 12 8191 (fun Kk hKk => ?_)
                            go_simp
                            refine hKk.out _ _ ?_ (fun hHeld => ?_)
                            · (try dsimp only)
                              exact ⟨(unhide HQ3b).tab 0 _ rfl, (unhide HQ3b).tab 1 _ rfl, (unhide HQ3b).tab 2 _ rfl⟩
                            clear hKk Kk
                            (try simp only [List.setIfInBounds_toArray, List.set_cons_zero, List.set_cons_succ])
                            refine rdA 13 16383 (fun Kk hKk => ?_)
                            rw [if_pos (by rfl)]
                            refine oper_app (by rfl) (by rfl) (unhide HRun) ?_
                            refine hKk.out _ _ ?_ (fun hHeld => ?_)
                            · (try dsimp only)
                              exact ⟨(unhide HQ4).tab 0 _ rfl, (unhide HQ4).tab 1 _ rfl, (unhide HQ4).tab 2 _ rfl⟩
                            clear hKk Kk
                            (try simp only [List.setIfInBounds_toArray, List.set_cons_zero, List.set_cons_succ])
                            refine tkA 14 129 32767 ?_
                            obtain ⟨⟨z, gz⟩, fz⟩ := (unhide HV4).room 5 (by decide)
                            refine rdA 15 65535 (fun Kk hKk => ?_)
                            go_simp
                            have fA : Fr [tb] w4 (w4.setCell ⟨tb, 5, none⟩ (.slice p (i + 1) s)) := (Fr.refl _ _).place _ _
                            have hQ5 := (unhide HQ4).fr fA (by simp; omega)
                            refine hKk.out _ _ ?_ (fun hHeld => ?_)
                            · (try dsimp only)
                              exact ⟨hQ5.tab 0 _ rfl, hQ5.tab 1 _ rfl, hQ5.tab 2 _ rfl⟩
                            clear hKk Kk
                            (try simp only [List.setIfInBounds_toArray, List.set_cons_zero, List.set_cons_succ])
                            have HR5 := hide ((unhide HR4).fr fA (fun j hj => by simp at hj; subst hj; exact ⟨fun q => by have := (World.ownsRow.lt (unhide HR4).own _ q).1; omega, fun q => by rcases q with q | q; have := q.1.2; omega; omega⟩) (fun q => q))
                            have HV5 := hide ((unhide HV4).set 5 (.slice p (i + 1) s))
                            have HF5 := hide ((unhide HF4).thenL fA (by simp))
                            clear gz fz z fA hQ5
                            refine wpAnyH_done (by kernel_rfl) ?_ _
                            go_wp2_with fail
                            exact ⟨⟨i + 1, _, _, by omega, by go_num, unhide HR5, unhide HV5, unhide HF5⟩, by simp [intOf]; omega⟩
                          · go_simp
                            refine hKk.out _ _ ?_ (fun hHeld => ?_)
                            · (try dsimp only)
                              exact ⟨(unhide HQ3b).tab 0 _ rfl, (unhide HQ3b).tab 1 _ rfl, (unhide HQ3b).tab 2 _ rfl⟩
                            clear hKk Kk
                            (try simp only [List.setIfInBounds_toArray, List.set_cons_zero, List.set_cons_succ])
                            refine rdA 1 8191 (fun Kk hKk => ?_)
                            have gT := (unhide HV3b).tab 5 _ rfl
                            go_simp
                            refine hKk.out _ _ ?_ (fun hHeld => ?_)
                            · (try dsimp only)
                              exact ⟨(unhide HQ3b).tab 0 _ rfl, (unhide HQ3b).tab 1 _ rfl, (unhide HQ3b).tab 2 _ rfl⟩
                            clear hKk Kk gT
                            (try simp only [List.setIfInBounds_toArray, List.set_cons_zero, List.set_cons_succ])
                            refine rdA 13 16383 (fun Kk hKk => ?_)
                            rw [if_pos (by rfl)]
                            refine oper_app (by rfl) (by rfl) (unhide HRun) ?_
                            refine hKk.out _ _ ?_ (fun hHeld => ?_)
                            · (try dsimp only)
                              exact ⟨(unhide HQ4).tab 0 _ rfl, (unhide HQ4).tab 1 _ rfl, (unhide HQ4).tab 2 _ rfl⟩
                            clear hKk Kk
                            (try simp only [List.setIfInBounds_toArray, List.set_cons_zero, List.set_cons_succ])
                            refine tkA 14 129 32767 ?_
                            obtain ⟨⟨z, gz⟩, fz⟩ := (unhide HV4).room 5 (by decide)
                            refine rdA 15 65535 (fun Kk hKk => ?_)
                            go_simp
                            have fA : Fr [tb] w4 (w4.setCell ⟨tb, 5, none⟩ (.slice p (i + 1) s)) := (Fr.refl _ _).place _ _
                            have hQ5 := (unhide HQ4).fr fA (by simp; omega)
                            refine hKk.out _ _ ?_ (fun hHeld => ?_)
                            · (try dsimp only)
                              exact ⟨hQ5.tab 0 _ rfl, hQ5.tab 1 _ rfl, hQ5.tab 2 _ rfl⟩
                            clear hKk Kk
                            (try simp only [List.setIfInBounds_toArray, List.set_cons_zero, List.set_cons_succ])
                            have HR5 := hide ((unhide HR4).fr fA (fun j hj => by simp at hj; subst hj; exact ⟨fun q => by have := (World.ownsRow.lt (unhide HR4).own _ q).1; omega, fun q => by rcases q with q | q; have := q.1.2; omega; omega⟩) (fun q => q))
                            have HV5 := hide ((unhide HV4).set 5 (.slice p (i + 1) s))
                            have HF5 := hide ((unhide HF4).thenL fA (by simp))
                            clear gz fz z fA hQ5
                            refine wpAnyH_done (by kernel_rfl) ?_ _
                            go_wp2_with fail
                            exact ⟨⟨i + 1, _, _, by omega, by go_num, unhide HR5, unhide HV5, unhide HF5⟩, by simp [intOf]; omega⟩
                      · obtain rfl : i = m.globs.length := by omega
                        rw [List.take_length] at hR
                        have HPn := hide ((unhide HP).put5 m hF hV hR rfl (mm' := { types := m.types, imps := m.imps, funcs := m.funcs, tabs := m.tabs, mems := m.mems, globs := m.globs, exps := m.exps, starts := m.starts, start := m.start, elems := [], datas := [] }) rfl)
                        replace HP := HPn
                        clear HPn hR hV hF htb hlo hwz hlt hi H5
                        have g9 := (unhide HP).old.tab 9 _ rfl
                        have htb := (unhide HP).vr.lt
                        have hlo := (unhide HP).lo
                        have hwz := (unhide HP).fr.size
                        go_wp2_with fail
                        clear g9
                        go_loopw [134] (fun vi9 wr9 => ∃ (i : Nat) (cs : List Value) (v : Value), i ≤ m.elems.length ∧ vi9 = .int .i64 (i : Int) ∧ Rye eEm (fun b => P b ∧ b < W.heap.size) 90 wr5.heap.size v (m.elems.take i) cs 0 wr9 ∧ Vr tb 11 [.slice pp0 m.types.length ss0, .slice pp1 m.imps.length ss1, .slice pp2 m.funcs.length ss2, u3, u4, .slice pp5 m.globs.length ss5, .slice pp6 m.exps.length ss6, .bool m.starts, .int .u32 m.start, v, .slice none 0 0] wr9 ∧ Fr [tb] wr5 wr9) (fun vi9 _ => m.elems.length - (intOf vi9).toNat)
                        case atStart => exact ⟨0, [], .slice none 0 0, by omega, rfl, rye_nil _ _ _ _ _ _, (unhide HP).vr, Fr.refl _ _⟩
                        case round =>
                          generalize wr = wr9 at *
                          obtain ⟨i, cs, v, hi, rfl, hR, hV, hF⟩ := hrel
                          obtain ⟨pp9, ss9, rfl⟩ := hR.slice_i hi
                          by_cases hlt : i < m.elems.length
                          · rcases unhide H9 with h0 | ⟨b1, o1, rfl, hb1, k1⟩
                            · omega
                            have hat := List.getElem?_eq_getElem hlt
                            have hi' : (i : Int) < (m.elems.length : Int) := by omega
                            have hi2 : (0 : Int) ≤ (i : Int) := by omega
                            obtain ⟨_, hrep, k1⟩ := k1 i m.elems[i] hat
                            generalize m.elems[i] = x at *
                            have hFw := (unhide HP).up hF
                            have hnn := (unhide HM).elems
                            obtain ⟨w1, w2, rfl, hw2, hw1⟩ := id hrep
                            obtain ⟨a1, c1, rfl, -, -, -⟩ := id hw1
                            obtain ⟨a2, c2, rfl, -⟩ := hw2.open2
                            have g10 := hFw.keep (k1 0 (by decide)) (by simp)
                            change wr9.cell? ⟨b1, o1 + i * 3, none⟩ = some (.int .u32 x.1) at g10
                            have g11 := hFw.keep (k1 1 (by decide)) (by simp)
                            change wr9.cell? ⟨b1, o1 + i * 3 + 1, none⟩ = some (.slice a2 x.2.1.len c2) at g11
                            have g12 := hFw.keep (k1 2 (by decide)) (by simp)
                            change wr9.cell? ⟨b1, o1 + i * 3 + 2, none⟩ = some (.slice a1 x.2.2.length c1) at g12
                            have hsz := (unhide HM).offs x (List.mem_of_getElem? hat) |>.1
                            have hf1 : Fr [] wr9 (wr9.alloc (.cells #[.int .u32 x.1, .slice a2 x.2.1.len c2, .slice a1 x.2.2.length c1] 119)) := (Fr.refl [] wr9).alloc _
                            have hq := vr_new [.int .u32 x.1, .slice a2 x.2.1.len c2, .slice a1 x.2.2.length c1] 119 wr9
                            have HR0 := hide hR
                            have HV0 := hide hV
                            have HF0 := hide hF
                            have HW0 := hide hFw
                            have HQ0 := hide hq
                            have hf1 := hide hf1
                            have HE0 := hide hw2
                            have HO0 := hide hw1
                            clear hR hV hF hFw hq k1 hrep hw2 hw1
                            go_wp2_with fail
                            clear g10 g11 g12
                            have hf2 := (unhide hf1).trans (Fr.refl [] (wr9.alloc (.cells #[.int .u32 x.1, .slice a2 x.2.1.len c2, .slice a1 x.2.2.length c1] 119))).drew
                            have hq2 := (unhide HQ0).fr (Fr.refl [] (wr9.alloc (.cells #[.int .u32 x.1, .slice a2 x.2.1.len c2, .slice a1 x.2.2.length c1] 119))).drew (by simp)
                            refine wp_region_held_drew (S := fun w' => w'.cell? ⟨wr9.heap.size, 0, none⟩ = some (.int .u32 x.1) ∧ w'.cell? ⟨wr9.heap.size, 1, none⟩ = some (.slice a2 x.2.1.len c2) ∧ w'.cell? ⟨wr9.heap.size, 2, none⟩ = some (.slice a1 x.2.2.length c1)) (by kernel_rfl) ?_ (fun hHeld => ?_)
                            · (try dsimp only)
                              exact ⟨hq2.tab 0 _ rfl, hq2.tab 1 _ rfl, hq2.tab 2 _ rfl⟩
                            have hF := (unhide HF0).thenL hf2 (by simp)
                            have hR := (unhide HR0).fr0 hf2 (fun q => q)
                            have hV := (unhide HV0).fr hf2 (by simp)
                            have hW := (unhide HW0).trans hf2
                            have hql := hq2.lt
                            have hown := hide (fun g hg => World.ownsRow.lt (unhide HR0).own g hg)
                            have hxz := (unhide HF0).size
                            clear HF0 HR0 HV0 HW0 HQ0 hf1
                            generalize (wr9.alloc (.cells #[.int .u32 x.1, .slice a2 x.2.1.len c2, .slice a1 x.2.2.length c1] 119)).drew = w2 at *
                            have hsz2 := hf2.size
                            have HR := hide hR
                            have HV := hide hV
                            have HF := hide hF
                            have HQ := hide hq2
                            have HE := hide ((unhide HE0).fr hW (by simp))
                            have HO := hide ((unhide HO0).fr hW (by simp))
                            clear hR hV hF hW hq2 hf2 HE0 HO0
                            refine lst0 14 (by kernel_rfl) ?_
                            refine tkA 0 138 1 ?_
                            refine tkA 2 140 5 ?_
                            refine tkA 3 141 13 ?_
                            refine tkA 4 142 29 ?_
                            refine tkA 5 143 61 ?_
                            refine tkA 7 145 189 ?_
                            refine tkA 8 146 445 ?_
                            refine rdB 1 6 447 509 (fun Kk hKk => ?_) (fun Kk hKk => ?_)
                            · have gT := (unhide HV).tab 9 _ rfl
                              go_simp
                              refine hKk.out _ _ ?_ (fun hHeld => ?_)
                              · (try dsimp only)
                                exact ⟨(unhide HQ).tab 0 _ rfl, (unhide HQ).tab 1 _ rfl, (unhide HQ).tab 2 _ rfl⟩
                              clear hKk Kk gT
                              (try simp only [List.setIfInBounds_toArray, List.set_cons_zero, List.set_cons_succ])
                              refine rdA 6 511 (fun Kk hKk => ?_)
                              go_simp
                              refine (plain_any (x.2.1.size + 1) x.2.1 (fun b => P b ∧ b < W.heap.size) (.slice a2 x.2.1.len c2) _ (Nat.lt_succ_self _) (by omega) (unhide HE)).mono ?_
                              rintro _ w3 ⟨p3, s3, rfl, hV3, hF3⟩
                              have hsz3 := hF3.size
                              have HQ3 := hide ((unhide HQ).fr hF3 (by simp))
                              have HV3 := hide ((unhide HV).fr hF3 (by simp))
                              have HF3 := hide ((unhide HF).thenL hF3 (by simp))
                              have hR3 := (unhide HR).fr0 hF3 (e' := 0) (fun q => q)
                              obtain ⟨p, s, w4, hrun, hR4, hfr4, -⟩ := hR3.nx (x := x) (c := [.int .u32 x.1, .slice p3 x.2.1.len s3, .slice a1 x.2.2.length c1]) (o := ⟨w3.heap.size, 0, none⟩) Tryz.underlying44 iEm zeroEm sizeEm bytesEm (by decide) rfl (Fr.of (below1 w3 (.cells #[.int .u32 x.1, .slice p3 x.2.1.len s3, .slice a1 x.2.2.length c1] 90)) []) (by omega) (by omega) hat (⟨_, _, rfl, (hV3.fr (Fr.of (below1 w3 (.cells #[.int .u32 x.1, .slice p3 x.2.1.len s3, .slice a1 x.2.2.length c1] 90)) []) (by simp)).mono (fun b _ q => by rcases q with q | q; exact .inl ⟨q.1, by have := q.1.2; omega⟩; exact .inr ⟨by omega, fun hb => by have := (unhide hown b hb).2; omega⟩), ((unhide HO).fr hF3 (by simp)).fr (Fr.of (below1 w3 (.cells #[.int .u32 x.1, .slice p3 x.2.1.len s3, .slice a1 x.2.2.length c1] 90)) []) (by simp) |>.mono (fun b _ q => .inl ⟨q, by have := q.2; omega⟩)⟩) (fun j u hj => by rw [add_off, Nat.zero_add, World.cell?_alloc_new]; simpa using hj)
                              have HRun := hide hrun
                              have HR4 := hide hR4
                              have HV4 := hide (((unhide HV3).fr (Fr.of (below1 w3 (.cells #[.int .u32 x.1, .slice p3 x.2.1.len s3, .slice a1 x.2.2.length c1] 90)) []) (by simp)).fr hfr4 (fun hm => by have := (unhide hown tb (by simpa using hm)).1; omega))
                              have HF4 := hide (((unhide HF3).thenL (Fr.of (below1 w3 (.cells #[.int .u32 x.1, .slice p3 x.2.1.len s3, .slice a1 x.2.2.length c1] 90)) []) (by simp)).thenL hfr4 (fun b hb => .inr (unhide hown b (by simpa using hb)).1))
                              have HQ3b := hide ((unhide HQ3).fr (Fr.of (below1 w3 (.cells #[.int .u32 x.1, .slice p3 x.2.1.len s3, .slice a1 x.2.2.length c1] 90)) []) (by simp))
                              have HQ4 := hide ((unhide HQ3b).fr hfr4 (fun hm => by have := (unhide hown _ (by simpa using hm)).2; omega))
                              have HV3b := hide ((unhide HV3).fr (Fr.of (below1 w3 (.cells #[.int .u32 x.1, .slice p3 x.2.1.len s3, .slice a1 x.2.2.length c1] 90)) []) (by simp))
                              clear hrun hR3 hR4 hfr4 hV3 hF3 HR HV HF
                              (try go_wp2_with fail)
                              refine hKk.out _ _ ?_ (fun hHeld => ?_)
                              · (try dsimp only)
                                exact ⟨(unhide HQ3).tab 0 _ rfl, (unhide HQ3).tab 1 _ rfl, (unhide HQ3).tab 2 _ rfl⟩
                              clear hKk Kk
                              (try simp only [List.setIfInBounds_toArray, List.set_cons_zero, List.set_cons_succ])
                              refine tkA 9 147 1023 ?_
                              refine rdA 10 2047 (fun Kk hKk => ?_)
                              go_simp
                              refine hKk.out _ _ ?_ (fun hHeld => ?_)
                              · (try dsimp only)
                                exact ⟨(unhide HQ3b).tab 0 _ rfl, (unhide HQ3b).tab 1 _ rfl, (unhide HQ3b).tab 2 _ rfl⟩
                              clear hKk Kk
                              (try simp only [List.setIfInBounds_toArray, List.set_cons_zero, List.set_cons_succ])
                              refine rdA 11 4095 (fun Kk hKk => ?_)
                              rw [if_pos (by rfl)]
                              refine oper_app (by rfl) (by rfl) (unhide HRun) ?_
                              refine hKk.out _ _ ?_ (fun hHeld => ?_)
                              · (try dsimp only)
                                exact ⟨(unhide HQ4).tab 0 _ rfl, (unhide HQ4).tab 1 _ rfl, (unhide HQ4).tab 2 _ rfl⟩
                              clear hKk Kk
                              (try simp only [List.setIfInBounds_toArray, List.set_cons_zero, List.set_cons_succ])
                              refine tkA 12 150 8191 ?_
                              obtain ⟨⟨z, gz⟩, fz⟩ := (unhide HV4).room 9 (by decide)
                              refine rdA 13 16383 (fun Kk hKk => ?_)
                              go_simp
                              have fA : Fr [tb] w4 (w4.setCell ⟨tb, 9, none⟩ (.slice p (i + 1) s)) := (Fr.refl _ _).place _ _
                              have hQ5 := (unhide HQ4).fr fA (by simp; omega)
                              refine hKk.out _ _ ?_ (fun hHeld => ?_)
                              · (try dsimp only)
                                exact ⟨hQ5.tab 0 _ rfl, hQ5.tab 1 _ rfl, hQ5.tab 2 _ rfl⟩
                              clear hKk Kk
                              (try simp only [List.setIfInBounds_toArray, List.set_cons_zero, List.set_cons_succ])
                              have HR5 := hide ((unhide HR4).fr fA (fun j hj => by simp at hj; subst hj; exact ⟨fun q => by have := (World.ownsRow.lt (unhide HR4).own _ q).1; omega, fun q => by rcases q with q | q; have := q.1.2; omega; omega⟩) (fun q => q))
                              have HV5 := hide ((unhide HV4).set 9 (.slice p (i + 1) s))
                              have HF5 := hide ((unhide HF4).thenL fA (by simp))
                              clear gz fz z fA hQ5
                              refine wpAnyH_done (by kernel_rfl) ?_ _
                              go_wp2_with fail
                              exact ⟨⟨i + 1, _, _, by omega, by go_num, unhide HR5, unhide HV5, unhide HF5⟩, by simp [intOf]; omega⟩
                            · go_simp
                              refine (plain_any (x.2.1.size + 1) x.2.1 (fun b => P b ∧ b < W.heap.size) (.slice a2 x.2.1.len c2) _ (Nat.lt_succ_self _) (by omega) (unhide HE)).mono ?_
                              rintro _ w3 ⟨p3, s3, rfl, hV3, hF3⟩
                              have hsz3 := hF3.size
                              have HQ3 := hide ((unhide HQ).fr hF3 (by simp))
                              have HV3 := hide ((unhide HV).fr hF3 (by simp))
                              have HF3 := hide ((unhide HF).thenL hF3 (by simp))
                              have hR3 := (unhide HR).fr0 hF3 (e' := 0) (fun q => q)
                              obtain ⟨p, s, w4, hrun, hR4, hfr4, -⟩ := hR3.nx (x := x) (c := [.int .u32 x.1, .slice p3 x.2.1.len s3, .slice a1 x.2.2.length c1]) (o := ⟨w3.heap.size, 0, none⟩) Tryz.underlying44 iEm zeroEm sizeEm bytesEm (by decide) rfl (Fr.of (below1 w3 (.cells #[.int .u32 x.1, .slice p3 x.2.1.len s3, .slice a1 x.2.2.length c1] 90)) []) (by omega) (by omega) hat (⟨_, _, rfl, (hV3.fr (Fr.of (below1 w3 (.cells #[.int .u32 x.1, .slice p3 x.2.1.len s3, .slice a1 x.2.2.length c1] 90)) []) (by simp)).mono (fun b _ q => by rcases q with q | q; exact .inl ⟨q.1, by have := q.1.2; omega⟩; exact .inr ⟨by omega, fun hb => by have := (unhide hown b hb).2; omega⟩), ((unhide HO).fr hF3 (by simp)).fr (Fr.of (below1 w3 (.cells #[.int .u32 x.1, .slice p3 x.2.1.len s3, .slice a1 x.2.2.length c1] 90)) []) (by simp) |>.mono (fun b _ q => .inl ⟨q, by have := q.2; omega⟩)⟩) (fun j u hj => by rw [add_off, Nat.zero_add, World.cell?_alloc_new]; simpa using hj)
                              have HRun := hide hrun
                              have HR4 := hide hR4
                              have HV4 := hide (((unhide HV3).fr (Fr.of (below1 w3 (.cells #[.int .u32 x.1, .slice p3 x.2.1.len s3, .slice a1 x.2.2.length c1] 90)) []) (by simp)).fr hfr4 (fun hm => by have := (unhide hown tb (by simpa using hm)).1; omega))
                              have HF4 := hide (((unhide HF3).thenL (Fr.of (below1 w3 (.cells #[.int .u32 x.1, .slice p3 x.2.1.len s3, .slice a1 x.2.2.length c1] 90)) []) (by simp)).thenL hfr4 (fun b hb => .inr (unhide hown b (by simpa using hb)).1))
                              have HQ3b := hide ((unhide HQ3).fr (Fr.of (below1 w3 (.cells #[.int .u32 x.1, .slice p3 x.2.1.len s3, .slice a1 x.2.2.length c1] 90)) []) (by simp))
                              have HQ4 := hide ((unhide HQ3b).fr hfr4 (fun hm => by have := (unhide hown _ (by simpa using hm)).2; omega))
                              have HV3b := hide ((unhide HV3).fr (Fr.of (below1 w3 (.cells #[.int .u32 x.1, .slice p3 x.2.1.len s3, .slice a1 x.2.2.length c1] 90)) []) (by simp))
                              clear hrun hR3 hR4 hfr4 hV3 hF3 HR HV HF
                              (try go_wp2_with fail)
                              refine hKk.out _ _ ?_ (fun hHeld => ?_)
                              · (try dsimp only)
                                exact ⟨(unhide HQ3).tab 0 _ rfl, (unhide HQ3).tab 1 _ rfl, (unhide HQ3).tab 2 _ rfl⟩
                              clear hKk Kk
                              (try simp only [List.setIfInBounds_toArray, List.set_cons_zero, List.set_cons_succ])
                              refine tkA 9 147 1021 ?_
                              refine rdB 1 10 1023 2045 (fun Kk hKk => ?_) (fun Kk hKk => ?_)
                              · have gT := (unhide HV3).tab 9 _ rfl
                                go_simp
                                refine hKk.out _ _ ?_ (fun hHeld => ?_)
                                · (try dsimp only)
                                  exact ⟨(unhide HQ3).tab 0 _ rfl, (unhide HQ3).tab 1 _ rfl, (unhide HQ3).tab 2 _ rfl⟩
                                clear hKk Kk gT
                                (try simp only [List.setIfInBounds_toArray, List.set_cons_zero, List.set_cons_succ])
                                refine rdA 10 2047 (fun Kk hKk => ?_)
                                go_simp
                                refine hKk.out _ _ ?_ (fun hHeld => ?_)
                                · (try dsimp only)
                                  exact ⟨(unhide HQ3b).tab 0 _ rfl, (unhide HQ3b).tab 1 _ rfl, (unhide HQ3b).tab 2 _ rfl⟩
                                clear hKk Kk
                                (try simp only [List.setIfInBounds_toArray, List.set_cons_zero, List.set_cons_succ])
                                refine rdA 11 4095 (fun Kk hKk => ?_)
                                rw [if_pos (by rfl)]
                                refine oper_app (by rfl) (by rfl) (unhide HRun) ?_
                                refine hKk.out _ _ ?_ (fun hHeld => ?_)
                                · (try dsimp only)
                                  exact ⟨(unhide HQ4).tab 0 _ rfl, (unhide HQ4).tab 1 _ rfl, (unhide HQ4).tab 2 _ rfl⟩
                                clear hKk Kk
                                (try simp only [List.setIfInBounds_toArray, List.set_cons_zero, List.set_cons_succ])
                                refine tkA 12 150 8191 ?_
                                obtain ⟨⟨z, gz⟩, fz⟩ := (unhide HV4).room 9 (by decide)
                                refine rdA 13 16383 (fun Kk hKk => ?_)
                                go_simp
                                have fA : Fr [tb] w4 (w4.setCell ⟨tb, 9, none⟩ (.slice p (i + 1) s)) := (Fr.refl _ _).place _ _
                                have hQ5 := (unhide HQ4).fr fA (by simp; omega)
                                refine hKk.out _ _ ?_ (fun hHeld => ?_)
                                · (try dsimp only)
                                  exact ⟨hQ5.tab 0 _ rfl, hQ5.tab 1 _ rfl, hQ5.tab 2 _ rfl⟩
                                clear hKk Kk
                                (try simp only [List.setIfInBounds_toArray, List.set_cons_zero, List.set_cons_succ])
                                have HR5 := hide ((unhide HR4).fr fA (fun j hj => by simp at hj; subst hj; exact ⟨fun q => by have := (World.ownsRow.lt (unhide HR4).own _ q).1; omega, fun q => by rcases q with q | q; have := q.1.2; omega; omega⟩) (fun q => q))
                                have HV5 := hide ((unhide HV4).set 9 (.slice p (i + 1) s))
                                have HF5 := hide ((unhide HF4).thenL fA (by simp))
                                clear gz fz z fA hQ5
                                refine wpAnyH_done (by kernel_rfl) ?_ _
                                go_wp2_with fail
                                exact ⟨⟨i + 1, _, _, by omega, by go_num, unhide HR5, unhide HV5, unhide HF5⟩, by simp [intOf]; omega⟩
                              · go_simp
                                refine hKk.out _ _ ?_ (fun hHeld => ?_)
                                · (try dsimp only)
                                  exact ⟨(unhide HQ3b).tab 0 _ rfl, (unhide HQ3b).tab 1 _ rfl, (unhide HQ3b).tab 2 _ rfl⟩
                                clear hKk Kk
                                (try simp only [List.setIfInBounds_toArray, List.set_cons_zero, List.set_cons_succ])
                                refine rdA 1 2047 (fun Kk hKk => ?_)
                                have gT := (unhide HV3b).tab 9 _ rfl
                                go_simp
                                refine hKk.out _ _ ?_ (fun hHeld => ?_)
                                · (try dsimp only)
                                  exact ⟨(unhide HQ3b).tab 0 _ rfl, (unhide HQ3b).tab 1 _ rfl, (unhide HQ3b).tab 2 _ rfl⟩
                                clear hKk Kk gT
                                (try simp only [List.setIfInBounds_toArray, List.set_cons_zero, List.set_cons_succ])
                                refine rdA 11 4095 (fun Kk hKk => ?_)
                                rw [if_pos (by rfl)]
                                refine oper_app (by rfl) (by rfl) (unhide HRun) ?_
                                refine hKk.out _ _ ?_ (fun hHeld => ?_)
                                · (try dsimp only)
                                  exact ⟨(unhide HQ4).tab 0 _ rfl, (unhide HQ4).tab 1 _ rfl, (unhide HQ4).tab 2 _ rfl⟩
                                clear hKk Kk
                                (try simp only [List.setIfInBounds_toArray, List.set_cons_zero, List.set_cons_succ])
                                refine tkA 12 150 8191 ?_
                                obtain ⟨⟨z, gz⟩, fz⟩ := (unhide HV4).room 9 (by decide)
                                refine rdA 13 16383 (fun Kk hKk => ?_)
                                go_simp
                                have fA : Fr [tb] w4 (w4.setCell ⟨tb, 9, none⟩ (.slice p (i + 1) s)) := (Fr.refl _ _).place _ _
                                have hQ5 := (unhide HQ4).fr fA (by simp; omega)
                                refine hKk.out _ _ ?_ (fun hHeld => ?_)
                                · (try dsimp only)
                                  exact ⟨hQ5.tab 0 _ rfl, hQ5.tab 1 _ rfl, hQ5.tab 2 _ rfl⟩
                                clear hKk Kk
                                (try simp only [List.setIfInBounds_toArray, List.set_cons_zero, List.set_cons_succ])
                                have HR5 := hide ((unhide HR4).fr fA (fun j hj => by simp at hj; subst hj; exact ⟨fun q => by have := (World.ownsRow.lt (unhide HR4).own _ q).1; omega, fun q => by rcases q with q | q; have := q.1.2; omega; omega⟩) (fun q => q))
                                have HV5 := hide ((unhide HV4).set 9 (.slice p (i + 1) s))
                                have HF5 := hide ((unhide HF4).thenL fA (by simp))
                                clear gz fz z fA hQ5
                                refine wpAnyH_done (by kernel_rfl) ?_ _
                                go_wp2_with fail
                                exact ⟨⟨i + 1, _, _, by omega, by go_num, unhide HR5, unhide HV5, unhide HF5⟩, by simp [intOf]; omega⟩
                          · obtain rfl : i = m.elems.length := by omega
                            rw [List.take_length] at hR
                            have HPn := hide ((unhide HP).put9 m hF hV hR rfl (mm' := { types := m.types, imps := m.imps, funcs := m.funcs, tabs := m.tabs, mems := m.mems, globs := m.globs, exps := m.exps, starts := m.starts, start := m.start, elems := m.elems, datas := [] }) rfl)
                            replace HP := HPn
                            clear HPn hR hV hF htb hlo hwz hlt hi H9
                            have g10 := (unhide HP).old.tab 10 _ rfl
                            have htb := (unhide HP).vr.lt
                            have hlo := (unhide HP).lo
                            have hwz := (unhide HP).fr.size
                            go_wp2_with fail
                            clear g10
                            go_loopw [155] (fun vi10 wr10 => ∃ (i : Nat) (cs : List Value) (v : Value), i ≤ m.datas.length ∧ vi10 = .int .i64 (i : Int) ∧ Rye eDa (fun b => P b ∧ b < W.heap.size) 93 wr9.heap.size v (m.datas.take i) cs 0 wr10 ∧ Vr tb 11 [.slice pp0 m.types.length ss0, .slice pp1 m.imps.length ss1, .slice pp2 m.funcs.length ss2, u3, u4, .slice pp5 m.globs.length ss5, .slice pp6 m.exps.length ss6, .bool m.starts, .int .u32 m.start, .slice pp9 m.elems.length ss9, v] wr10 ∧ Fr [tb] wr9 wr10) (fun vi10 _ => m.datas.length - (intOf vi10).toNat)
                            case atStart => exact ⟨0, [], .slice none 0 0, by omega, rfl, rye_nil _ _ _ _ _ _, (unhide HP).vr, Fr.refl _ _⟩
                            case round =>
                              generalize wr = wr10 at *
                              obtain ⟨i, cs, v, hi, rfl, hR, hV, hF⟩ := hrel
                              obtain ⟨pp10, ss10, rfl⟩ := hR.slice_i hi
                              by_cases hlt : i < m.datas.length
                              · rcases unhide H10 with h0 | ⟨b1, o1, rfl, hb1, k1⟩
                                · omega
                                have hat := List.getElem?_eq_getElem hlt
                                have hi' : (i : Int) < (m.datas.length : Int) := by omega
                                have hi2 : (0 : Int) ≤ (i : Int) := by omega
                                obtain ⟨_, hrep, k1⟩ := k1 i m.datas[i] hat
                                generalize m.datas[i] = x at *
                                have hFw := (unhide HP).up hF
                                have hnn := (unhide HM).datas
                                obtain ⟨w1, w2, rfl, hw2, hw1⟩ := id hrep
                                obtain ⟨a1, c1, rfl, -, -, -⟩ := id hw1
                                obtain ⟨a2, c2, rfl, -⟩ := hw2.open2
                                have g10 := hFw.keep (k1 0 (by decide)) (by simp)
                                change wr10.cell? ⟨b1, o1 + i * 3, none⟩ = some (.int .u32 x.1) at g10
                                have g11 := hFw.keep (k1 1 (by decide)) (by simp)
                                change wr10.cell? ⟨b1, o1 + i * 3 + 1, none⟩ = some (.slice a2 x.2.1.len c2) at g11
                                have g12 := hFw.keep (k1 2 (by decide)) (by simp)
                                change wr10.cell? ⟨b1, o1 + i * 3 + 2, none⟩ = some (.slice a1 x.2.2.length c1) at g12
                                have hsz := (unhide HM).doffs x (List.mem_of_getElem? hat) |>.1
                                have hf1 : Fr [] wr10 (wr10.alloc (.cells #[.int .u32 x.1, .slice a2 x.2.1.len c2, .slice a1 x.2.2.length c1] 121)) := (Fr.refl [] wr10).alloc _
                                have hq := vr_new [.int .u32 x.1, .slice a2 x.2.1.len c2, .slice a1 x.2.2.length c1] 121 wr10
                                have HR0 := hide hR
                                have HV0 := hide hV
                                have HF0 := hide hF
                                have HW0 := hide hFw
                                have HQ0 := hide hq
                                have hf1 := hide hf1
                                have HE0 := hide hw2
                                have HO0 := hide hw1
                                clear hR hV hF hFw hq k1 hrep hw2 hw1
                                go_wp2_with fail
                                clear g10 g11 g12
                                have hf2 := (unhide hf1).trans (Fr.refl [] (wr10.alloc (.cells #[.int .u32 x.1, .slice a2 x.2.1.len c2, .slice a1 x.2.2.length c1] 121))).drew
                                have hq2 := (unhide HQ0).fr (Fr.refl [] (wr10.alloc (.cells #[.int .u32 x.1, .slice a2 x.2.1.len c2, .slice a1 x.2.2.length c1] 121))).drew (by simp)
                                refine wp_region_held_drew (S := fun w' => w'.cell? ⟨wr10.heap.size, 0, none⟩ = some (.int .u32 x.1) ∧ w'.cell? ⟨wr10.heap.size, 1, none⟩ = some (.slice a2 x.2.1.len c2) ∧ w'.cell? ⟨wr10.heap.size, 2, none⟩ = some (.slice a1 x.2.2.length c1)) (by kernel_rfl) ?_ (fun hHeld => ?_)
                                · (try dsimp only)
                                  exact ⟨hq2.tab 0 _ rfl, hq2.tab 1 _ rfl, hq2.tab 2 _ rfl⟩
                                have hF := (unhide HF0).thenL hf2 (by simp)
                                have hR := (unhide HR0).fr0 hf2 (fun q => q)
                                have hV := (unhide HV0).fr hf2 (by simp)
                                have hW := (unhide HW0).trans hf2
                                have hql := hq2.lt
                                have hown := hide (fun g hg => World.ownsRow.lt (unhide HR0).own g hg)
                                have hxz := (unhide HF0).size
                                clear HF0 HR0 HV0 HW0 HQ0 hf1
                                generalize (wr10.alloc (.cells #[.int .u32 x.1, .slice a2 x.2.1.len c2, .slice a1 x.2.2.length c1] 121)).drew = w2 at *
                                have hsz2 := hf2.size
                                have HR := hide hR
                                have HV := hide hV
                                have HF := hide hF
                                have HQ := hide hq2
                                have HE := hide ((unhide HE0).fr hW (by simp))
                                have HO := hide ((unhide HO0).fr hW (by simp))
                                clear hR hV hF hW hq2 hf2 HE0 HO0
                                refine lst0 14 (by kernel_rfl) ?_
                                refine tkA 0 159 1 ?_
                                refine tkA 2 161 5 ?_
                                refine tkA 3 162 13 ?_
                                refine tkA 4 163 29 ?_
                                refine tkA 5 164 61 ?_
                                refine tkA 7 166 189 ?_
                                refine tkA 8 167 445 ?_
                                refine rdB 1 6 447 509 (fun Kk hKk => ?_) (fun Kk hKk => ?_)
                                · have gT := (unhide HV).tab 10 _ rfl
                                  go_simp
                                  refine hKk.out _ _ ?_ (fun hHeld => ?_)
                                  · (try dsimp only)
                                    exact ⟨(unhide HQ).tab 0 _ rfl, (unhide HQ).tab 1 _ rfl, (unhide HQ).tab 2 _ rfl⟩
                                  clear hKk Kk gT
                                  (try simp only [List.setIfInBounds_toArray, List.set_cons_zero, List.set_cons_succ])
                                  refine rdA 6 511 (fun Kk hKk => ?_)
                                  go_simp
                                  refine (plain_any (x.2.1.size + 1) x.2.1 (fun b => P b ∧ b < W.heap.size) (.slice a2 x.2.1.len c2) _ (Nat.lt_succ_self _) (by omega) (unhide HE)).mono ?_
                                  rintro _ w3 ⟨p3, s3, rfl, hV3, hF3⟩
                                  have hsz3 := hF3.size
                                  have HQ3 := hide ((unhide HQ).fr hF3 (by simp))
                                  have HV3 := hide ((unhide HV).fr hF3 (by simp))
                                  have HF3 := hide ((unhide HF).thenL hF3 (by simp))
                                  have hR3 := (unhide HR).fr0 hF3 (e' := 0) (fun q => q)
                                  obtain ⟨p, s, w4, hrun, hR4, hfr4, -⟩ := hR3.nx (x := x) (c := [.int .u32 x.1, .slice p3 x.2.1.len s3, .slice a1 x.2.2.length c1]) (o := ⟨w3.heap.size, 0, none⟩) Tryz.underlying45 iDa zeroDa sizeDa bytesDa (by decide) rfl (Fr.of (below1 w3 (.cells #[.int .u32 x.1, .slice p3 x.2.1.len s3, .slice a1 x.2.2.length c1] 93)) []) (by omega) (by omega) hat (⟨_, _, rfl, (hV3.fr (Fr.of (below1 w3 (.cells #[.int .u32 x.1, .slice p3 x.2.1.len s3, .slice a1 x.2.2.length c1] 93)) []) (by simp)).mono (fun b _ q => by rcases q with q | q; exact .inl ⟨q.1, by have := q.1.2; omega⟩; exact .inr ⟨by omega, fun hb => by have := (unhide hown b hb).2; omega⟩), ((unhide HO).fr hF3 (by simp)).fr (Fr.of (below1 w3 (.cells #[.int .u32 x.1, .slice p3 x.2.1.len s3, .slice a1 x.2.2.length c1] 93)) []) (by simp) |>.mono (fun b _ q => .inl ⟨q, by have := q.2; omega⟩)⟩) (fun j u hj => by rw [add_off, Nat.zero_add, World.cell?_alloc_new]; simpa using hj)
                                  have HRun := hide hrun
                                  have HR4 := hide hR4
                                  have HV4 := hide (((unhide HV3).fr (Fr.of (below1 w3 (.cells #[.int .u32 x.1, .slice p3 x.2.1.len s3, .slice a1 x.2.2.length c1] 93)) []) (by simp)).fr hfr4 (fun hm => by have := (unhide hown tb (by simpa using hm)).1; omega))
                                  have HF4 := hide (((unhide HF3).thenL (Fr.of (below1 w3 (.cells #[.int .u32 x.1, .slice p3 x.2.1.len s3, .slice a1 x.2.2.length c1] 93)) []) (by simp)).thenL hfr4 (fun b hb => .inr (unhide hown b (by simpa using hb)).1))
                                  have HQ3b := hide ((unhide HQ3).fr (Fr.of (below1 w3 (.cells #[.int .u32 x.1, .slice p3 x.2.1.len s3, .slice a1 x.2.2.length c1] 93)) []) (by simp))
                                  have HQ4 := hide ((unhide HQ3b).fr hfr4 (fun hm => by have := (unhide hown _ (by simpa using hm)).2; omega))
                                  have HV3b := hide ((unhide HV3).fr (Fr.of (below1 w3 (.cells #[.int .u32 x.1, .slice p3 x.2.1.len s3, .slice a1 x.2.2.length c1] 93)) []) (by simp))
                                  clear hrun hR3 hR4 hfr4 hV3 hF3 HR HV HF
                                  (try go_wp2_with fail)
                                  refine hKk.out _ _ ?_ (fun hHeld => ?_)
                                  · (try dsimp only)
                                    exact ⟨(unhide HQ3).tab 0 _ rfl, (unhide HQ3).tab 1 _ rfl, (unhide HQ3).tab 2 _ rfl⟩
                                  clear hKk Kk
                                  (try simp only [List.setIfInBounds_toArray, List.set_cons_zero, List.set_cons_succ])
                                  refine tkA 9 168 1023 ?_
                                  refine rdA 10 2047 (fun Kk hKk => ?_)
                                  go_simp
                                  refine hKk.out _ _ ?_ (fun hHeld => ?_)
                                  · (try dsimp only)
                                    exact ⟨(unhide HQ3b).tab 0 _ rfl, (unhide HQ3b).tab 1 _ rfl, (unhide HQ3b).tab 2 _ rfl⟩
                                  clear hKk Kk
                                  (try simp only [List.setIfInBounds_toArray, List.set_cons_zero, List.set_cons_succ])
                                  refine rdA 11 4095 (fun Kk hKk => ?_)
                                  rw [if_pos (by rfl)]
                                  refine oper_app (by rfl) (by rfl) (unhide HRun) ?_
                                  refine hKk.out _ _ ?_ (fun hHeld => ?_)
                                  · (try dsimp only)
                                    exact ⟨(unhide HQ4).tab 0 _ rfl, (unhide HQ4).tab 1 _ rfl, (unhide HQ4).tab 2 _ rfl⟩
                                  clear hKk Kk
                                  (try simp only [List.setIfInBounds_toArray, List.set_cons_zero, List.set_cons_succ])
                                  refine tkA 12 171 8191 ?_
                                  obtain ⟨⟨z, gz⟩, fz⟩ := (unhide HV4).room 10 (by decide)
                                  refine rdA 13 16383 (fun Kk hKk => ?_)
                                  go_simp
                                  have fA : Fr [tb] w4 (w4.setCell ⟨tb, 10, none⟩ (.slice p (i + 1) s)) := (Fr.refl _ _).place _ _
                                  have hQ5 := (unhide HQ4).fr fA (by simp; omega)
                                  refine hKk.out _ _ ?_ (fun hHeld => ?_)
                                  · (try dsimp only)
                                    exact ⟨hQ5.tab 0 _ rfl, hQ5.tab 1 _ rfl, hQ5.tab 2 _ rfl⟩
                                  clear hKk Kk
                                  (try simp only [List.setIfInBounds_toArray, List.set_cons_zero, List.set_cons_succ])
                                  have HR5 := hide ((unhide HR4).fr fA (fun j hj => by simp at hj; subst hj; exact ⟨fun q => by have := (World.ownsRow.lt (unhide HR4).own _ q).1; omega, fun q => by rcases q with q | q; have := q.1.2; omega; omega⟩) (fun q => q))
                                  have HV5 := hide ((unhide HV4).set 10 (.slice p (i + 1) s))
                                  have HF5 := hide ((unhide HF4).thenL fA (by simp))
                                  clear gz fz z fA hQ5
                                  refine wpAnyH_done (by kernel_rfl) ?_ _
                                  go_wp2_with fail
                                  exact ⟨⟨i + 1, _, _, by omega, by go_num, unhide HR5, unhide HV5, unhide HF5⟩, by simp [intOf]; omega⟩
                                · go_simp
                                  refine (plain_any (x.2.1.size + 1) x.2.1 (fun b => P b ∧ b < W.heap.size) (.slice a2 x.2.1.len c2) _ (Nat.lt_succ_self _) (by omega) (unhide HE)).mono ?_
                                  rintro _ w3 ⟨p3, s3, rfl, hV3, hF3⟩
                                  have hsz3 := hF3.size
                                  have HQ3 := hide ((unhide HQ).fr hF3 (by simp))
                                  have HV3 := hide ((unhide HV).fr hF3 (by simp))
                                  have HF3 := hide ((unhide HF).thenL hF3 (by simp))
                                  have hR3 := (unhide HR).fr0 hF3 (e' := 0) (fun q => q)
                                  obtain ⟨p, s, w4, hrun, hR4, hfr4, -⟩ := hR3.nx (x := x) (c := [.int .u32 x.1, .slice p3 x.2.1.len s3, .slice a1 x.2.2.length c1]) (o := ⟨w3.heap.size, 0, none⟩) Tryz.underlying45 iDa zeroDa sizeDa bytesDa (by decide) rfl (Fr.of (below1 w3 (.cells #[.int .u32 x.1, .slice p3 x.2.1.len s3, .slice a1 x.2.2.length c1] 93)) []) (by omega) (by omega) hat (⟨_, _, rfl, (hV3.fr (Fr.of (below1 w3 (.cells #[.int .u32 x.1, .slice p3 x.2.1.len s3, .slice a1 x.2.2.length c1] 93)) []) (by simp)).mono (fun b _ q => by rcases q with q | q; exact .inl ⟨q.1, by have := q.1.2; omega⟩; exact .inr ⟨by omega, fun hb => by have := (unhide hown b hb).2; omega⟩), ((unhide HO).fr hF3 (by simp)).fr (Fr.of (below1 w3 (.cells #[.int .u32 x.1, .slice p3 x.2.1.len s3, .slice a1 x.2.2.length c1] 93)) []) (by simp) |>.mono (fun b _ q => .inl ⟨q, by have := q.2; omega⟩)⟩) (fun j u hj => by rw [add_off, Nat.zero_add, World.cell?_alloc_new]; simpa using hj)
                                  have HRun := hide hrun
                                  have HR4 := hide hR4
                                  have HV4 := hide (((unhide HV3).fr (Fr.of (below1 w3 (.cells #[.int .u32 x.1, .slice p3 x.2.1.len s3, .slice a1 x.2.2.length c1] 93)) []) (by simp)).fr hfr4 (fun hm => by have := (unhide hown tb (by simpa using hm)).1; omega))
                                  have HF4 := hide (((unhide HF3).thenL (Fr.of (below1 w3 (.cells #[.int .u32 x.1, .slice p3 x.2.1.len s3, .slice a1 x.2.2.length c1] 93)) []) (by simp)).thenL hfr4 (fun b hb => .inr (unhide hown b (by simpa using hb)).1))
                                  have HQ3b := hide ((unhide HQ3).fr (Fr.of (below1 w3 (.cells #[.int .u32 x.1, .slice p3 x.2.1.len s3, .slice a1 x.2.2.length c1] 93)) []) (by simp))
                                  have HQ4 := hide ((unhide HQ3b).fr hfr4 (fun hm => by have := (unhide hown _ (by simpa using hm)).2; omega))
                                  have HV3b := hide ((unhide HV3).fr (Fr.of (below1 w3 (.cells #[.int .u32 x.1, .slice p3 x.2.1.len s3, .slice a1 x.2.2.length c1] 93)) []) (by simp))
                                  clear hrun hR3 hR4 hfr4 hV3 hF3 HR HV HF
                                  (try go_wp2_with fail)
                                  refine hKk.out _ _ ?_ (fun hHeld => ?_)
                                  · (try dsimp only)
                                    exact ⟨(unhide HQ3).tab 0 _ rfl, (unhide HQ3).tab 1 _ rfl, (unhide HQ3).tab 2 _ rfl⟩
                                  clear hKk Kk
                                  (try simp only [List.setIfInBounds_toArray, List.set_cons_zero, List.set_cons_succ])
                                  refine tkA 9 168 1021 ?_
                                  refine rdB 1 10 1023 2045 (fun Kk hKk => ?_) (fun Kk hKk => ?_)
                                  · have gT := (unhide HV3).tab 10 _ rfl
                                    go_simp
                                    refine hKk.out _ _ ?_ (fun hHeld => ?_)
                                    · (try dsimp only)
                                      exact ⟨(unhide HQ3).tab 0 _ rfl, (unhide HQ3).tab 1 _ rfl, (unhide HQ3).tab 2 _ rfl⟩
                                    clear hKk Kk gT
                                    (try simp only [List.setIfInBounds_toArray, List.set_cons_zero, List.set_cons_succ])
                                    refine rdA 10 2047 (fun Kk hKk => ?_)
                                    go_simp
                                    refine hKk.out _ _ ?_ (fun hHeld => ?_)
                                    · (try dsimp only)
                                      exact ⟨(unhide HQ3b).tab 0 _ rfl, (unhide HQ3b).tab 1 _ rfl, (unhide HQ3b).tab 2 _ rfl⟩
                                    clear hKk Kk
                                    (try simp only [List.setIfInBounds_toArray, List.set_cons_zero, List.set_cons_succ])
                                    refine rdA 11 4095 (fun Kk hKk => ?_)
                                    rw [if_pos (by rfl)]
                                    refine oper_app (by rfl) (by rfl) (unhide HRun) ?_
                                    refine hKk.out _ _ ?_ (fun hHeld => ?_)
                                    · (try dsimp only)
                                      exact ⟨(unhide HQ4).tab 0 _ rfl, (unhide HQ4).tab 1 _ rfl, (unhide HQ4).tab 2 _ rfl⟩
                                    clear hKk Kk
                                    (try simp only [List.setIfInBounds_toArray, List.set_cons_zero, List.set_cons_succ])
                                    refine tkA 12 171 8191 ?_
                                    obtain ⟨⟨z, gz⟩, fz⟩ := (unhide HV4).room 10 (by decide)
                                    refine rdA 13 16383 (fun Kk hKk => ?_)
                                    go_simp
                                    have fA : Fr [tb] w4 (w4.setCell ⟨tb, 10, none⟩ (.slice p (i + 1) s)) := (Fr.refl _ _).place _ _
                                    have hQ5 := (unhide HQ4).fr fA (by simp; omega)
                                    refine hKk.out _ _ ?_ (fun hHeld => ?_)
                                    · (try dsimp only)
                                      exact ⟨hQ5.tab 0 _ rfl, hQ5.tab 1 _ rfl, hQ5.tab 2 _ rfl⟩
                                    clear hKk Kk
                                    (try simp only [List.setIfInBounds_toArray, List.set_cons_zero, List.set_cons_succ])
                                    have HR5 := hide ((unhide HR4).fr fA (fun j hj => by simp at hj; subst hj; exact ⟨fun q => by have := (World.ownsRow.lt (unhide HR4).own _ q).1; omega, fun q => by rcases q with q | q; have := q.1.2; omega; omega⟩) (fun q => q))
                                    have HV5 := hide ((unhide HV4).set 10 (.slice p (i + 1) s))
                                    have HF5 := hide ((unhide HF4).thenL fA (by simp))
                                    clear gz fz z fA hQ5
                                    refine wpAnyH_done (by kernel_rfl) ?_ _
                                    go_wp2_with fail
                                    exact ⟨⟨i + 1, _, _, by omega, by go_num, unhide HR5, unhide HV5, unhide HF5⟩, by simp [intOf]; omega⟩
                                  · go_simp
                                    refine hKk.out _ _ ?_ (fun hHeld => ?_)
                                    · (try dsimp only)
                                      exact ⟨(unhide HQ3b).tab 0 _ rfl, (unhide HQ3b).tab 1 _ rfl, (unhide HQ3b).tab 2 _ rfl⟩
                                    clear hKk Kk
                                    (try simp only [List.setIfInBounds_toArray, List.set_cons_zero, List.set_cons_succ])
                                    refine rdA 1 2047 (fun Kk hKk => ?_)
                                    have gT := (unhide HV3b).tab 10 _ rfl
                                    go_simp
                                    refine hKk.out _ _ ?_ (fun hHeld => ?_)
                                    · (try dsimp only)
                                      exact ⟨(unhide HQ3b).tab 0 _ rfl, (unhide HQ3b).tab 1 _ rfl, (unhide HQ3b).tab 2 _ rfl⟩
                                    clear hKk Kk gT
                                    (try simp only [List.setIfInBounds_toArray, List.set_cons_zero, List.set_cons_succ])
                                    refine rdA 11 4095 (fun Kk hKk => ?_)
                                    rw [if_pos (by rfl)]
                                    refine oper_app (by rfl) (by rfl) (unhide HRun) ?_
                                    refine hKk.out _ _ ?_ (fun hHeld => ?_)
                                    · (try dsimp only)
                                      exact ⟨(unhide HQ4).tab 0 _ rfl, (unhide HQ4).tab 1 _ rfl, (unhide HQ4).tab 2 _ rfl⟩
                                    clear hKk Kk
                                    (try simp only [List.setIfInBounds_toArray, List.set_cons_zero, List.set_cons_succ])
                                    refine tkA 12 171 8191 ?_
                                    obtain ⟨⟨z, gz⟩, fz⟩ := (unhide HV4).room 10 (by decide)
                                    refine rdA 13 16383 (fun Kk hKk => ?_)
                                    go_simp
                                    have fA : Fr [tb] w4 (w4.setCell ⟨tb, 10, none⟩ (.slice p (i + 1) s)) := (Fr.refl _ _).place _ _
                                    have hQ5 := (unhide HQ4).fr fA (by simp; omega)
                                    refine hKk.out _ _ ?_ (fun hHeld => ?_)
                                    · (try dsimp only)
                                      exact ⟨hQ5.tab 0 _ rfl, hQ5.tab 1 _ rfl, hQ5.tab 2 _ rfl⟩
                                    clear hKk Kk
                                    (try simp only [List.setIfInBounds_toArray, List.set_cons_zero, List.set_cons_succ])
                                    have HR5 := hide ((unhide HR4).fr fA (fun j hj => by simp at hj; subst hj; exact ⟨fun q => by have := (World.ownsRow.lt (unhide HR4).own _ q).1; omega, fun q => by rcases q with q | q; have := q.1.2; omega; omega⟩) (fun q => q))
                                    have HV5 := hide ((unhide HV4).set 10 (.slice p (i + 1) s))
                                    have HF5 := hide ((unhide HF4).thenL fA (by simp))
                                    clear gz fz z fA hQ5
                                    refine wpAnyH_done (by kernel_rfl) ?_ _
                                    go_wp2_with fail
                                    exact ⟨⟨i + 1, _, _, by omega, by go_num, unhide HR5, unhide HV5, unhide HF5⟩, by simp [intOf]; omega⟩
                              · obtain rfl : i = m.datas.length := by omega
                                rw [List.take_length] at hR
                                have HPn := hide ((unhide HP).put10 m hF hV hR rfl (mm' := { types := m.types, imps := m.imps, funcs := m.funcs, tabs := m.tabs, mems := m.mems, globs := m.globs, exps := m.exps, starts := m.starts, start := m.start, elems := m.elems, datas := m.datas }) rfl)
                                replace HP := HPn
                                clear HPn hR hV hF htb hlo hwz hlt hi H10
                                have hmo : MoR wr10 (Pq P W tb) m [.slice pp0 m.types.length ss0, .slice pp1 m.imps.length ss1, .slice pp2 m.funcs.length ss2, u3, u4, .slice pp5 m.globs.length ss5, .slice pp6 m.exps.length ss6, .bool m.starts, .int .u32 m.start, .slice pp9 m.elems.length ss9, .slice pp10 m.datas.length ss10] := ⟨⟨_, _, _, _, _, _, _, _, _, rfl, (unhide HP).a, (unhide HP).b, (unhide HP).c, (unhide HP).d, (unhide HP).e, (unhide HP).f, (unhide HP).g, (unhide HP).i, (unhide HP).j⟩⟩
                                have hvr : Vr tb 11 [.slice pp0 m.types.length ss0, .slice pp1 m.imps.length ss1, .slice pp2 m.funcs.length ss2, u3, u4, .slice pp5 m.globs.length ss5, .slice pp6 m.exps.length ss6, .bool m.starts, .int .u32 m.start, .slice pp9 m.elems.length ss9, .slice pp10 m.datas.length ss10] wr10 := (unhide HP).vr
                                have hres := (unhide HP).res
                                have HFz := hide (unhide HP).fr
                                have hone := hmo.one
                                have hlen := hmo.len
                                clear HP
                                generalize [.slice pp0 m.types.length ss0, .slice pp1 m.imps.length ss1, .slice pp2 m.funcs.length ss2, u3, u4, .slice pp5 m.globs.length ss5, .slice pp6 m.exps.length ss6, .bool m.starts, .int .u32 m.start, .slice pp9 m.elems.length ss9, .slice pp10 m.datas.length ss10] = us at *
                                have hX := vr_cells (cs := us) (n := 11) hres.room hres.lt hlen
                                have fZ := fr_cells (W.heap.size + 1) us 0 wr10
                                have HZ := hide fZ
                                have HXv := hide hX
                                have HMo := hide hmo
                                have HVr := hide hvr
                                have HRs := hide hres
                                clear hX fZ hmo hvr hres
                                go_wp2_with (first | (refine wpList_load_tab rfl 47 (.tmp 3) rfl tb rfl us _ (unhide HVr).tab Tryz.underlying47 rfl (by rw [hlen]; exact szP47) ?_) | (refine wpList_storeA rfl 47 (.tmp 2) (.tmp 173) rfl rfl (g := W.heap.size + 1) (off := 0) (cs := us) rfl rfl (by rw [hlen]; exact szP47) (fun j hj => by rw [Nat.zero_add]; exact (unhide HRs).room j (by omega)) hone ?_))
                                generalize wr10.setCells (W.heap.size + 1) 0 us = wz at *
                                refine bodyPost_ret (v := .agg us.toArray) ?_ rfl ?_
                                · exact results_cellP Tryz.results11 _ rfl (load_tab (unhide HXv).tab Tryz.underlying47 rfl (by rw [hlen]; exact szP47))
                                · exact ⟨us, rfl, ((unhide HMo).fr0 (unhide HZ) (by simp [Pq]; omega)).mono (fun b _ q => q.1.elim .inl (fun q => .inr (by omega))), (unhide HFz).thenL (unhide HZ) (by simp)⟩
end Go.Proofs.YtjoonmpjcophnaaGreatDoor
