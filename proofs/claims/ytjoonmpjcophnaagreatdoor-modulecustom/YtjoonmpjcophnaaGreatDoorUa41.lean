/- MsD. -/
import Derived.Test.YtjoonmpjcophnaaGreatDoorUa38
namespace Go.Proofs.YtjoonmpjcophnaaGreatDoor
open Go.RowKit

set_option maxHeartbeats 16000000 in
set_option maxRecDepth 100000 in
theorem rsame_any {m : Mo} {P P' : Nat → Prop} {vs vs' : List Value} {W : World} (hm : Mok m) (h1 : MoR W P m vs) (h2 : MoR W P' m vs') : Calls Tryz.prog 10 #[.agg vs.toArray, .agg vs'.toArray] W fun r W' => r = .returned (.bool true) ∧ Fr [] W W' := by
  obtain ⟨v0, v1, v2, v3, v4, v5, v6, v9, v10, rfl, k0, k1, k2, k3, k4, k5, k6, k9, k10⟩ := h1.ex
  obtain ⟨u0, u1, u2, u3, u4, u5, u6, u9, u10, rfl, l0, l1, l2, l3, l4, l5, l6, l9, l10⟩ := h2.ex
  obtain ⟨a2, c2, rfl, -, k2⟩ := k2.open
  obtain ⟨b2, z2, rfl, -, l2⟩ := l2.open
  obtain ⟨a9, c9, rfl, -, k9⟩ := k9.open
  obtain ⟨b9, z9, rfl, -, l9⟩ := l9.open
  obtain ⟨a10, c10, rfl, -, k10⟩ := k10.open
  obtain ⟨b10, z10, rfl, -, l10⟩ := l10.open
  have H1 := hide h1
  have H2 := hide h2
  have K0 := hide k0
  have L0 := hide l0
  have K3 := hide k3
  have L3 := hide l3
  have K4 := hide k4
  have L4 := hide l4
  have K2 := hide k2
  have L2 := hide l2
  have K9 := hide k9
  have L9 := hide l9
  have K10 := hide k10
  have L10 := hide l10
  have x2 := hm.funcs
  have x9 := hm.elems
  have x10 := hm.datas
  clear h1 h2 k0 l0 k1 l1 k2 l2 k3 l3 k4 l4 k5 l5 k6 l6 k9 l9 k10 l10
  go_enter Tryz.func10, Tryz.ntmps10
  go_wp2_with fail
  have V1 := vr_new [v0, v1, .slice a2 m.funcs.length c2, v3, v4, v5, v6, .bool m.starts, .int .u32 m.start, .slice a9 m.elems.length c9, .slice a10 m.datas.length c10] 47 W
  have V2 := vr_new [u0, u1, .slice b2 m.funcs.length z2, u3, u4, u5, u6, .bool m.starts, .int .u32 m.start, .slice b9 m.elems.length z9, .slice b10 m.datas.length z10] 47 (W.alloc (.cells #[v0, v1, .slice a2 m.funcs.length c2, v3, v4, v5, v6, .bool m.starts, .int .u32 m.start, .slice a9 m.elems.length c9, .slice a10 m.datas.length c10] 47))
  have hb := below2 W (.cells #[v0, v1, .slice a2 m.funcs.length c2, v3, v4, v5, v6, .bool m.starts, .int .u32 m.start, .slice a9 m.elems.length c9, .slice a10 m.datas.length c10] 47) (.cells #[u0, u1, .slice b2 m.funcs.length z2, u3, u4, u5, u6, .bool m.starts, .int .u32 m.start, .slice b9 m.elems.length z9, .slice b10 m.datas.length z10] 47)
  have V1 := V1.fr (Fr.of (below1 _ (.cells #[u0, u1, .slice b2 m.funcs.length z2, u3, u4, u5, u6, .bool m.starts, .int .u32 m.start, .slice b9 m.elems.length z9, .slice b10 m.datas.length z10] 47)) []) (by simp)
  rw [show (W.alloc (.cells #[v0, v1, .slice a2 m.funcs.length c2, v3, v4, v5, v6, .bool m.starts, .int .u32 m.start, .slice a9 m.elems.length c9, .slice a10 m.datas.length c10] 47)).heap.size = W.heap.size + 1 by simp] at V2
  have V1 := hide V1.tab
  have V2 := hide V2.tab
  change Hid (Tab ((W.alloc (.cells #[v0, v1, .slice a2 m.funcs.length c2, v3, v4, v5, v6, .bool m.starts, .int .u32 m.start, .slice a9 m.elems.length c9, .slice a10 m.datas.length c10] 47)).alloc (.cells #[u0, u1, .slice b2 m.funcs.length z2, u3, u4, u5, u6, .bool m.starts, .int .u32 m.start, .slice b9 m.elems.length z9, .slice b10 m.datas.length z10] 47)) _ _) at V1
  change Hid (Tab ((W.alloc (.cells #[v0, v1, .slice a2 m.funcs.length c2, v3, v4, v5, v6, .bool m.starts, .int .u32 m.start, .slice a9 m.elems.length c9, .slice a10 m.datas.length c10] 47)).alloc (.cells #[u0, u1, .slice b2 m.funcs.length z2, u3, u4, u5, u6, .bool m.starts, .int .u32 m.start, .slice b9 m.elems.length z9, .slice b10 m.datas.length z10] 47)) _ _) at V2
  have HF0 := hide (Fr.of hb [])
  clear hb
  generalize ((W.alloc (.cells #[v0, v1, .slice a2 m.funcs.length c2, v3, v4, v5, v6, .bool m.starts, .int .u32 m.start, .slice a9 m.elems.length c9, .slice a10 m.datas.length c10] 47)).alloc (.cells #[u0, u1, .slice b2 m.funcs.length z2, u3, u4, u5, u6, .bool m.starts, .int .u32 m.start, .slice b9 m.elems.length z9, .slice b10 m.datas.length z10] 47)) = wA at *
  refine (sametypes_any hm.types ((unhide K0).fr (unhide HF0) (by simp)) ((unhide L0).fr (unhide HF0) (by simp))).mono ?_
  rintro _ w1 ⟨rfl, hF⟩
  have V1 := hide ((unhide V1).fr hF (by simp))
  have V2 := hide ((unhide V2).fr hF (by simp))
  have HF0 := hide ((unhide HF0).trans hF)
  clear hF
  have e0 := (unhide V1) 0 _ rfl
  have e1 := (unhide V1) 1 _ rfl
  have e2 := (unhide V1) 2 _ rfl
  have e3 := (unhide V1) 3 _ rfl
  have e4 := (unhide V1) 4 _ rfl
  have e5 := (unhide V1) 5 _ rfl
  have e6 := (unhide V1) 6 _ rfl
  have e7 := (unhide V1) 7 _ rfl
  have e8 := (unhide V1) 8 _ rfl
  have e9 := (unhide V1) 9 _ rfl
  have e10 := (unhide V1) 10 _ rfl
  have f0 := (unhide V2) 0 _ rfl
  have f1 := (unhide V2) 1 _ rfl
  have f2 := (unhide V2) 2 _ rfl
  have f3 := (unhide V2) 3 _ rfl
  have f4 := (unhide V2) 4 _ rfl
  have f5 := (unhide V2) 5 _ rfl
  have f6 := (unhide V2) 6 _ rfl
  have f7 := (unhide V2) 7 _ rfl
  have f8 := (unhide V2) 8 _ rfl
  have f9 := (unhide V2) 9 _ rfl
  have f10 := (unhide V2) 10 _ rfl
  go_wp2_with fail
  clear e0 f0 e1 f1 e2 f2 e3 f3 e4 f4 e5 f5 e6 f6 e7 f7 e8 f8 e9 f9 e10 f10
  refine (sameouter_any hm ((unhide H1).all (fun p v _ hc => (unhide HF0).keep hc (by simp))) ((unhide H2).all (fun p v _ hc => (unhide HF0).keep hc (by simp)))).mono ?_
  rintro _ w2 ⟨rfl, hF⟩
  have V1 := hide ((unhide V1).fr hF (by simp))
  have V2 := hide ((unhide V2).fr hF (by simp))
  have HF0 := hide ((unhide HF0).trans hF)
  clear hF
  have e0 := (unhide V1) 0 _ rfl
  have e1 := (unhide V1) 1 _ rfl
  have e2 := (unhide V1) 2 _ rfl
  have e3 := (unhide V1) 3 _ rfl
  have e4 := (unhide V1) 4 _ rfl
  have e5 := (unhide V1) 5 _ rfl
  have e6 := (unhide V1) 6 _ rfl
  have e7 := (unhide V1) 7 _ rfl
  have e8 := (unhide V1) 8 _ rfl
  have e9 := (unhide V1) 9 _ rfl
  have e10 := (unhide V1) 10 _ rfl
  have f0 := (unhide V2) 0 _ rfl
  have f1 := (unhide V2) 1 _ rfl
  have f2 := (unhide V2) 2 _ rfl
  have f3 := (unhide V2) 3 _ rfl
  have f4 := (unhide V2) 4 _ rfl
  have f5 := (unhide V2) 5 _ rfl
  have f6 := (unhide V2) 6 _ rfl
  have f7 := (unhide V2) 7 _ rfl
  have f8 := (unhide V2) 8 _ rfl
  have f9 := (unhide V2) 9 _ rfl
  have f10 := (unhide V2) 10 _ rfl
  go_wp2_with fail
  clear e0 f0 e1 f1 e2 f2 e3 f3 e4 f4 e5 f5 e6 f6 e7 f7 e8 f8 e9 f9 e10 f10
  refine (samelimits_any hm.tabs ((unhide K3).fr (unhide HF0) (by simp)) ((unhide L3).fr (unhide HF0) (by simp))).mono ?_
  rintro _ w3 ⟨rfl, hF⟩
  have V1 := hide ((unhide V1).fr hF (by simp))
  have V2 := hide ((unhide V2).fr hF (by simp))
  have HF0 := hide ((unhide HF0).trans hF)
  clear hF
  have e0 := (unhide V1) 0 _ rfl
  have e1 := (unhide V1) 1 _ rfl
  have e2 := (unhide V1) 2 _ rfl
  have e3 := (unhide V1) 3 _ rfl
  have e4 := (unhide V1) 4 _ rfl
  have e5 := (unhide V1) 5 _ rfl
  have e6 := (unhide V1) 6 _ rfl
  have e7 := (unhide V1) 7 _ rfl
  have e8 := (unhide V1) 8 _ rfl
  have e9 := (unhide V1) 9 _ rfl
  have e10 := (unhide V1) 10 _ rfl
  have f0 := (unhide V2) 0 _ rfl
  have f1 := (unhide V2) 1 _ rfl
  have f2 := (unhide V2) 2 _ rfl
  have f3 := (unhide V2) 3 _ rfl
  have f4 := (unhide V2) 4 _ rfl
  have f5 := (unhide V2) 5 _ rfl
  have f6 := (unhide V2) 6 _ rfl
  have f7 := (unhide V2) 7 _ rfl
  have f8 := (unhide V2) 8 _ rfl
  have f9 := (unhide V2) 9 _ rfl
  have f10 := (unhide V2) 10 _ rfl
  go_wp2_with fail
  clear e0 f0 e1 f1 e2 f2 e3 f3 e4 f4 e5 f5 e6 f6 e7 f7 e8 f8 e9 f9 e10 f10
  refine (samelimits_any hm.mems ((unhide K4).fr (unhide HF0) (by simp)) ((unhide L4).fr (unhide HF0) (by simp))).mono ?_
  rintro _ w4 ⟨rfl, hF⟩
  have V1 := hide ((unhide V1).fr hF (by simp))
  have V2 := hide ((unhide V2).fr hF (by simp))
  have HF0 := hide ((unhide HF0).trans hF)
  clear hF
  have e0 := (unhide V1) 0 _ rfl
  have e1 := (unhide V1) 1 _ rfl
  have e2 := (unhide V1) 2 _ rfl
  have e3 := (unhide V1) 3 _ rfl
  have e4 := (unhide V1) 4 _ rfl
  have e5 := (unhide V1) 5 _ rfl
  have e6 := (unhide V1) 6 _ rfl
  have e7 := (unhide V1) 7 _ rfl
  have e8 := (unhide V1) 8 _ rfl
  have e9 := (unhide V1) 9 _ rfl
  have e10 := (unhide V1) 10 _ rfl
  have f0 := (unhide V2) 0 _ rfl
  have f1 := (unhide V2) 1 _ rfl
  have f2 := (unhide V2) 2 _ rfl
  have f3 := (unhide V2) 3 _ rfl
  have f4 := (unhide V2) 4 _ rfl
  have f5 := (unhide V2) 5 _ rfl
  have f6 := (unhide V2) 6 _ rfl
  have f7 := (unhide V2) 7 _ rfl
  have f8 := (unhide V2) 8 _ rfl
  have f9 := (unhide V2) 9 _ rfl
  have f10 := (unhide V2) 10 _ rfl
  go_wp2_with fail
  clear e0 f0 e1 f1 e2 f2 e3 f3 e4 f4 e5 f5 e6 f6 e7 f7 e8 f8 e9 f9 e10 f10
  rename World => wB
  go_loopw [5] (fun v5 wr => ∃ (i : Nat), i ≤ m.funcs.length ∧ v5 = .int .i64 (i : Int) ∧ Fr [] wB wr) (fun v5 _ => m.funcs.length - (intOf v5).toNat)
  case atStart => exact ⟨0, by omega, rfl, Fr.refl _ _⟩
  case round =>
    obtain ⟨i, hi, rfl, hF⟩ := hrel
    have d1 := (((unhide V1).fr hF (by simp)) 2 _ rfl)
    have d2 := (((unhide V2).fr hF (by simp)) 2 _ rfl)
    by_cases hlt : i < m.funcs.length
    · have hi' : (i : Int) < (m.funcs.length : Int) := by omega
      have hi2 : (0 : Int) ≤ (i : Int) := by omega
      rcases unhide K2 with h0 | ⟨b1, o1, rfl, -, k1⟩
      · omega
      rcases unhide L2 with h0 | ⟨bb, oo, rfl, -, k2⟩
      · omega
      have hT := hm.bodies m.funcs[i] (List.getElem_mem hlt)
      obtain ⟨_, ⟨p1, p2, rfl, s1, s2⟩, k1⟩ := k1 i m.funcs[i] (List.getElem?_eq_getElem hlt)
      obtain ⟨_, ⟨q1, q2, rfl, t1, t2⟩, k2⟩ := k2 i m.funcs[i] (List.getElem?_eq_getElem hlt)
      generalize m.funcs[i] = x at *
      have hF2 := (unhide HF0).trans hF
      have g10 := hF2.keep (k1 0 (by decide)) (by simp)
      have g20 := hF2.keep (k2 0 (by decide)) (by simp)
      have g11 := hF2.keep (k1 1 (by decide)) (by simp)
      have g21 := hF2.keep (k2 1 (by decide)) (by simp)
      have g12 := hF2.keep (k1 2 (by decide)) (by simp)
      have g22 := hF2.keep (k2 2 (by decide)) (by simp)
      change wr.cell? ⟨b1, o1 + i * 3, none⟩ = some (.int .u32 x.1) at g10
      change wr.cell? ⟨bb, oo + i * 3, none⟩ = some (.int .u32 x.1) at g20
      change wr.cell? ⟨b1, o1 + i * 3 + 1, none⟩ = some (p1) at g11
      change wr.cell? ⟨bb, oo + i * 3 + 1, none⟩ = some (q1) at g21
      change wr.cell? ⟨b1, o1 + i * 3 + 2, none⟩ = some (p2) at g12
      change wr.cell? ⟨bb, oo + i * 3 + 2, none⟩ = some (q2) at g22
      have S1 := hide (s1.fr hF2 (by simp))
      have S2 := hide (s2.fr hF2 (by simp))
      have T1 := hide (t1.fr hF2 (by simp))
      have T2 := hide (t2.fr hF2 (by simp))
      have HF := hide hF
      clear k1 k2 hF hF2 s1 s2 t1 t2
      obtain ⟨sa, hsa⟩ : ∃ sa, strOfNums x.2.1 = sa := ⟨_, rfl⟩
      go_wp2_with fail
      have hdr : Fr [] wr wr.drew := (Fr.refl _ _).drew
      have S1 := hide ((unhide S1).fr hdr (by simp))
      have S2 := hide ((unhide S2).fr hdr (by simp))
      have T1 := hide ((unhide T1).fr hdr (by simp))
      have T2 := hide ((unhide T2).fr hdr (by simp))
      have HF := hide ((unhide HF).trans hdr)
      have HS := hide (show (fun w' => w'.cell? ⟨W.heap.size, 2, none⟩ = some (.slice (some ⟨b1, o1, none⟩) m.funcs.length c2) ∧ w'.cell? ⟨W.heap.size + 1, 2, none⟩ = some (.slice (some ⟨bb, oo, none⟩) m.funcs.length z2) ∧ w'.cell? ⟨b1, o1 + i * 3, none⟩ = some (.int .u32 x.1) ∧ w'.cell? ⟨b1, o1 + i * 3 + 1, none⟩ = some p1 ∧ w'.cell? ⟨b1, o1 + i * 3 + 2, none⟩ = some p2 ∧ w'.cell? ⟨bb, oo + i * 3, none⟩ = some (.int .u32 x.1) ∧ w'.cell? ⟨bb, oo + i * 3 + 1, none⟩ = some q1 ∧ w'.cell? ⟨bb, oo + i * 3 + 2, none⟩ = some q2 ∧ (convert 22 9 p1).run Tryz.prog w' = .ok (.string sa) w' ∧ (convert 22 9 q1).run Tryz.prog w' = .ok (.string sa) w') wr.drew from ⟨hdr.keep d1 (by simp), hdr.keep d2 (by simp), hdr.keep g10 (by simp), hdr.keep g11 (by simp), hdr.keep g12 (by simp), hdr.keep g20 (by simp), hdr.keep g21 (by simp), hdr.keep g22 (by simp), hsa ▸ conv_slc (unhide S1), hsa ▸ conv_slc (unhide T1)⟩)
      clear d1 d2 g10 g11 g12 g20 g21 g22 hdr
      refine wp_region_held_drew (S := (fun w' => w'.cell? ⟨W.heap.size, 2, none⟩ = some (.slice (some ⟨b1, o1, none⟩) m.funcs.length c2) ∧ w'.cell? ⟨W.heap.size + 1, 2, none⟩ = some (.slice (some ⟨bb, oo, none⟩) m.funcs.length z2) ∧ w'.cell? ⟨b1, o1 + i * 3, none⟩ = some (.int .u32 x.1) ∧ w'.cell? ⟨b1, o1 + i * 3 + 1, none⟩ = some p1 ∧ w'.cell? ⟨b1, o1 + i * 3 + 2, none⟩ = some p2 ∧ w'.cell? ⟨bb, oo + i * 3, none⟩ = some (.int .u32 x.1) ∧ w'.cell? ⟨bb, oo + i * 3 + 1, none⟩ = some q1 ∧ w'.cell? ⟨bb, oo + i * 3 + 2, none⟩ = some q2 ∧ (convert 22 9 p1).run Tryz.prog w' = .ok (.string sa) w' ∧ (convert 22 9 q1).run Tryz.prog w' = .ok (.string sa) w')) (by kernel_rfl) ?_ (fun hHeld => ?_)
      · exact unhide HS
      generalize wr.drew = wr at *
      refine lst0 46 (by kernel_rfl) ?_
      refine tkA 0 84 1 ?_
      refine tkA 1 85 3 ?_
      refine tkA 2 86 7 ?_
      refine tkA 3 87 15 ?_
      refine tkA 4 88 31 ?_
      refine tkA 5 89 63 ?_
      refine tkA 6 90 127 ?_
      refine tkA 7 91 255 ?_
      refine tkA 8 92 511 ?_
      refine tkA 9 93 1023 ?_
      refine tkA 10 94 2047 ?_
      refine tkA 11 95 4095 ?_
      refine tkA 12 96 8191 ?_
      refine tkA 13 97 16383 ?_
      refine tkA 14 98 32767 ?_
      refine tkA 15 99 65535 ?_
      refine tkA 16 100 131071 ?_
      refine tkA 17 101 262143 ?_
      refine tkA 18 102 524287 ?_
      refine tkA 19 103 1048575 ?_
      refine tkA 20 104 2097151 ?_
      refine tkA 21 105 4194303 ?_
      refine tkA 22 106 8388607 ?_
      refine tkA 23 107 16777215 ?_
      refine tkA 24 108 33554431 ?_
      refine tkA 25 109 67108863 ?_
      refine tkA 26 110 134217727 ?_
      refine tkA 27 111 268435455 ?_
      refine tkA 28 112 536870911 ?_
      refine tkA 29 113 1073741823 ?_
      refine tkA 30 114 2147483647 ?_
      refine tkA 31 115 4294967295 ?_
      refine tkA 32 116 8589934591 ?_
      refine tkA 33 117 17179869183 ?_
      refine tkA 34 118 34359738367 ?_
      refine tkA 35 119 68719476735 ?_
      refine tkA 36 120 137438953471 ?_
      refine tkA 37 121 274877906943 ?_
      refine tkA 38 122 549755813887 ?_
      refine tkA 39 123 1099511627775 ?_
      refine tkA 40 124 2199023255551 ?_
      refine tkA 41 125 4398046511103 ?_
      refine tkA 42 126 8796093022207 ?_
      refine rdA 43 17592186044415 (fun Kk hKk => ?_)
      go_simp
      refine (same_any _ x.2.2 _ _ _ _ _ (Nat.lt_succ_self _) hT.1 hT.2 (unhide S2) (unhide T2)).mono ?_
      rintro _ w43 ⟨rfl, hF1⟩
      obtain ⟨d1, d2, g10, g11, g12, g20, g21, g22, -, -⟩ := unhide HS
      have S1 := hide ((unhide S1).fr hF1 (by simp))
      have S2 := hide ((unhide S2).fr hF1 (by simp))
      have T1 := hide ((unhide T1).fr hF1 (by simp))
      have T2 := hide ((unhide T2).fr hF1 (by simp))
      have HF := hide ((unhide HF).trans hF1)
      have HS := hide (show (fun w' => w'.cell? ⟨W.heap.size, 2, none⟩ = some (.slice (some ⟨b1, o1, none⟩) m.funcs.length c2) ∧ w'.cell? ⟨W.heap.size + 1, 2, none⟩ = some (.slice (some ⟨bb, oo, none⟩) m.funcs.length z2) ∧ w'.cell? ⟨b1, o1 + i * 3, none⟩ = some (.int .u32 x.1) ∧ w'.cell? ⟨b1, o1 + i * 3 + 1, none⟩ = some p1 ∧ w'.cell? ⟨b1, o1 + i * 3 + 2, none⟩ = some p2 ∧ w'.cell? ⟨bb, oo + i * 3, none⟩ = some (.int .u32 x.1) ∧ w'.cell? ⟨bb, oo + i * 3 + 1, none⟩ = some q1 ∧ w'.cell? ⟨bb, oo + i * 3 + 2, none⟩ = some q2 ∧ (convert 22 9 p1).run Tryz.prog w' = .ok (.string sa) w' ∧ (convert 22 9 q1).run Tryz.prog w' = .ok (.string sa) w') w43 from ⟨hF1.keep d1 (by simp), hF1.keep d2 (by simp), hF1.keep g10 (by simp), hF1.keep g11 (by simp), hF1.keep g12 (by simp), hF1.keep g20 (by simp), hF1.keep g21 (by simp), hF1.keep g22 (by simp), hsa ▸ conv_slc (unhide S1), hsa ▸ conv_slc (unhide T1)⟩)
      clear d1 d2 g10 g11 g12 g20 g21 g22 hF1
      (try go_wp2_with fail)
      refine hKk.out _ _ ?_ (fun hHeld => ?_)
      · exact unhide HS
      clear hKk Kk
      (try simp only [List.setIfInBounds_toArray, List.set_cons_zero, List.set_cons_succ])
      refine tkA 44 128 35184372088831 ?_
      refine tkA 45 129 70368744177663 ?_
      refine wpAnyH_done (by kernel_rfl) ?_ _
      go_wp2_with fail
      exact ⟨⟨i + 1, by omega, by go_num, unhide HF⟩, by simp [intOf]; omega⟩
    · obtain rfl : i = m.funcs.length := by omega
      have V1 := hide ((unhide V1).fr hF (by simp))
      have V2 := hide ((unhide V2).fr hF (by simp))
      have HF0 := hide ((unhide HF0).trans hF)
      clear hF
      rename World => wB
      go_wp2_with fail
      clear d1 d2
      go_loopw [6] (fun v6 wr => ∃ (i : Nat), i ≤ m.elems.length ∧ v6 = .int .i64 (i : Int) ∧ Fr [] wB wr) (fun v6 _ => m.elems.length - (intOf v6).toNat)
      case atStart => exact ⟨0, by omega, rfl, Fr.refl _ _⟩
      case round =>
        obtain ⟨i, hi, rfl, hF⟩ := hrel
        have d1 := (((unhide V1).fr hF (by simp)) 9 _ rfl)
        have d2 := (((unhide V2).fr hF (by simp)) 9 _ rfl)
        by_cases hlt : i < m.elems.length
        · have hi' : (i : Int) < (m.elems.length : Int) := by omega
          have hi2 : (0 : Int) ≤ (i : Int) := by omega
          rcases unhide K9 with h0 | ⟨b1, o1, rfl, -, k1⟩
          · omega
          rcases unhide L9 with h0 | ⟨bb, oo, rfl, -, k2⟩
          · omega
          have hT := hm.offs m.elems[i] (List.getElem_mem hlt)
          obtain ⟨_, ⟨p1, p2, rfl, s1, s2⟩, k1⟩ := k1 i m.elems[i] (List.getElem?_eq_getElem hlt)
          obtain ⟨_, ⟨q1, q2, rfl, t1, t2⟩, k2⟩ := k2 i m.elems[i] (List.getElem?_eq_getElem hlt)
          generalize m.elems[i] = x at *
          have hF2 := (unhide HF0).trans hF
          have g10 := hF2.keep (k1 0 (by decide)) (by simp)
          have g20 := hF2.keep (k2 0 (by decide)) (by simp)
          have g11 := hF2.keep (k1 1 (by decide)) (by simp)
          have g21 := hF2.keep (k2 1 (by decide)) (by simp)
          have g12 := hF2.keep (k1 2 (by decide)) (by simp)
          have g22 := hF2.keep (k2 2 (by decide)) (by simp)
          change wr.cell? ⟨b1, o1 + i * 3, none⟩ = some (.int .u32 x.1) at g10
          change wr.cell? ⟨bb, oo + i * 3, none⟩ = some (.int .u32 x.1) at g20
          change wr.cell? ⟨b1, o1 + i * 3 + 1, none⟩ = some (p1) at g11
          change wr.cell? ⟨bb, oo + i * 3 + 1, none⟩ = some (q1) at g21
          change wr.cell? ⟨b1, o1 + i * 3 + 2, none⟩ = some (p2) at g12
          change wr.cell? ⟨bb, oo + i * 3 + 2, none⟩ = some (q2) at g22
          have S1 := hide (s1.fr hF2 (by simp))
          have S2 := hide (s2.fr hF2 (by simp))
          have T1 := hide (t1.fr hF2 (by simp))
          have T2 := hide (t2.fr hF2 (by simp))
          have HF := hide hF
          clear k1 k2 hF hF2 s1 s2 t1 t2
          go_wp2_with fail
          have hdr : Fr [] wr wr.drew := (Fr.refl _ _).drew
          have S1 := hide ((unhide S1).fr hdr (by simp))
          have S2 := hide ((unhide S2).fr hdr (by simp))
          have T1 := hide ((unhide T1).fr hdr (by simp))
          have T2 := hide ((unhide T2).fr hdr (by simp))
          have HF := hide ((unhide HF).trans hdr)
          have HS := hide (show (fun w' => w'.cell? ⟨W.heap.size, 9, none⟩ = some (.slice (some ⟨b1, o1, none⟩) m.elems.length c9) ∧ w'.cell? ⟨W.heap.size + 1, 9, none⟩ = some (.slice (some ⟨bb, oo, none⟩) m.elems.length z9) ∧ w'.cell? ⟨b1, o1 + i * 3, none⟩ = some (.int .u32 x.1) ∧ w'.cell? ⟨b1, o1 + i * 3 + 1, none⟩ = some p1 ∧ w'.cell? ⟨b1, o1 + i * 3 + 2, none⟩ = some p2 ∧ w'.cell? ⟨bb, oo + i * 3, none⟩ = some (.int .u32 x.1) ∧ w'.cell? ⟨bb, oo + i * 3 + 1, none⟩ = some q1 ∧ w'.cell? ⟨bb, oo + i * 3 + 2, none⟩ = some q2) wr.drew from ⟨hdr.keep d1 (by simp), hdr.keep d2 (by simp), hdr.keep g10 (by simp), hdr.keep g11 (by simp), hdr.keep g12 (by simp), hdr.keep g20 (by simp), hdr.keep g21 (by simp), hdr.keep g22 (by simp)⟩)
          clear d1 d2 g10 g11 g12 g20 g21 g22 hdr
          refine wp_region_held_drew (S := (fun w' => w'.cell? ⟨W.heap.size, 9, none⟩ = some (.slice (some ⟨b1, o1, none⟩) m.elems.length c9) ∧ w'.cell? ⟨W.heap.size + 1, 9, none⟩ = some (.slice (some ⟨bb, oo, none⟩) m.elems.length z9) ∧ w'.cell? ⟨b1, o1 + i * 3, none⟩ = some (.int .u32 x.1) ∧ w'.cell? ⟨b1, o1 + i * 3 + 1, none⟩ = some p1 ∧ w'.cell? ⟨b1, o1 + i * 3 + 2, none⟩ = some p2 ∧ w'.cell? ⟨bb, oo + i * 3, none⟩ = some (.int .u32 x.1) ∧ w'.cell? ⟨bb, oo + i * 3 + 1, none⟩ = some q1 ∧ w'.cell? ⟨bb, oo + i * 3 + 2, none⟩ = some q2)) (by kernel_rfl) ?_ (fun hHeld => ?_)
          · exact unhide HS
          generalize wr.drew = wr at *
          refine lst0 45 (by kernel_rfl) ?_
          refine tkA 0 137 1 ?_
          refine tkA 1 138 3 ?_
          refine tkA 2 139 7 ?_
          refine tkA 3 140 15 ?_
          refine tkA 4 141 31 ?_
          refine tkA 5 142 63 ?_
          refine tkA 6 143 127 ?_
          refine tkA 7 144 255 ?_
          refine tkA 8 145 511 ?_
          refine tkA 9 146 1023 ?_
          refine tkA 10 147 2047 ?_
          refine tkA 11 148 4095 ?_
          refine tkA 12 149 8191 ?_
          refine tkA 13 150 16383 ?_
          refine tkA 14 151 32767 ?_
          refine tkA 15 152 65535 ?_
          refine tkA 16 153 131071 ?_
          refine tkA 17 154 262143 ?_
          refine tkA 18 155 524287 ?_
          refine tkA 19 156 1048575 ?_
          refine tkA 20 157 2097151 ?_
          refine tkA 21 158 4194303 ?_
          refine tkA 22 159 8388607 ?_
          refine tkA 23 160 16777215 ?_
          refine tkA 24 161 33554431 ?_
          refine tkA 25 162 67108863 ?_
          refine rdA 26 134217727 (fun Kk hKk => ?_)
          go_simp
          refine (same_any _ x.2.1 _ _ _ _ _ (Nat.lt_succ_self _) hT.1 hT.2.1 (unhide S1) (unhide T1)).mono ?_
          rintro _ w26 ⟨rfl, hF1⟩
          obtain ⟨d1, d2, g10, g11, g12, g20, g21, g22⟩ := unhide HS
          have S1 := hide ((unhide S1).fr hF1 (by simp))
          have S2 := hide ((unhide S2).fr hF1 (by simp))
          have T1 := hide ((unhide T1).fr hF1 (by simp))
          have T2 := hide ((unhide T2).fr hF1 (by simp))
          have HF := hide ((unhide HF).trans hF1)
          have HS := hide (show (fun w' => w'.cell? ⟨W.heap.size, 9, none⟩ = some (.slice (some ⟨b1, o1, none⟩) m.elems.length c9) ∧ w'.cell? ⟨W.heap.size + 1, 9, none⟩ = some (.slice (some ⟨bb, oo, none⟩) m.elems.length z9) ∧ w'.cell? ⟨b1, o1 + i * 3, none⟩ = some (.int .u32 x.1) ∧ w'.cell? ⟨b1, o1 + i * 3 + 1, none⟩ = some p1 ∧ w'.cell? ⟨b1, o1 + i * 3 + 2, none⟩ = some p2 ∧ w'.cell? ⟨bb, oo + i * 3, none⟩ = some (.int .u32 x.1) ∧ w'.cell? ⟨bb, oo + i * 3 + 1, none⟩ = some q1 ∧ w'.cell? ⟨bb, oo + i * 3 + 2, none⟩ = some q2) w26 from ⟨hF1.keep d1 (by simp), hF1.keep d2 (by simp), hF1.keep g10 (by simp), hF1.keep g11 (by simp), hF1.keep g12 (by simp), hF1.keep g20 (by simp), hF1.keep g21 (by simp), hF1.keep g22 (by simp)⟩)
          clear d1 d2 g10 g11 g12 g20 g21 g22 hF1
          (try go_wp2_with fail)
          refine hKk.out _ _ ?_ (fun hHeld => ?_)
          · exact unhide HS
          clear hKk Kk
          (try simp only [List.setIfInBounds_toArray, List.set_cons_zero, List.set_cons_succ])
          refine tkA 27 164 268435455 ?_
          refine tkA 28 165 536870911 ?_
          refine tkA 29 166 1073741823 ?_
          refine tkA 30 167 2147483647 ?_
          refine tkA 31 168 4294967295 ?_
          refine tkA 32 169 8589934591 ?_
          refine tkA 33 170 17179869183 ?_
          refine tkA 34 171 34359738367 ?_
          refine tkA 35 172 68719476735 ?_
          refine tkA 36 173 137438953471 ?_
          refine tkA 37 174 274877906943 ?_
          refine tkA 38 175 549755813887 ?_
          refine tkA 39 176 1099511627775 ?_
          refine tkA 40 177 2199023255551 ?_
          refine tkA 41 178 4398046511103 ?_
          refine rdA 42 8796093022207 (fun Kk hKk => ?_)
          go_simp
          refine (sameplaces_any hT.2.2 (unhide S2) (unhide T2)).mono ?_
          rintro _ w42 ⟨rfl, hF1⟩
          obtain ⟨d1, d2, g10, g11, g12, g20, g21, g22⟩ := unhide HS
          have S1 := hide ((unhide S1).fr hF1 (by simp))
          have S2 := hide ((unhide S2).fr hF1 (by simp))
          have T1 := hide ((unhide T1).fr hF1 (by simp))
          have T2 := hide ((unhide T2).fr hF1 (by simp))
          have HF := hide ((unhide HF).trans hF1)
          have HS := hide (show (fun w' => w'.cell? ⟨W.heap.size, 9, none⟩ = some (.slice (some ⟨b1, o1, none⟩) m.elems.length c9) ∧ w'.cell? ⟨W.heap.size + 1, 9, none⟩ = some (.slice (some ⟨bb, oo, none⟩) m.elems.length z9) ∧ w'.cell? ⟨b1, o1 + i * 3, none⟩ = some (.int .u32 x.1) ∧ w'.cell? ⟨b1, o1 + i * 3 + 1, none⟩ = some p1 ∧ w'.cell? ⟨b1, o1 + i * 3 + 2, none⟩ = some p2 ∧ w'.cell? ⟨bb, oo + i * 3, none⟩ = some (.int .u32 x.1) ∧ w'.cell? ⟨bb, oo + i * 3 + 1, none⟩ = some q1 ∧ w'.cell? ⟨bb, oo + i * 3 + 2, none⟩ = some q2) w42 from ⟨hF1.keep d1 (by simp), hF1.keep d2 (by simp), hF1.keep g10 (by simp), hF1.keep g11 (by simp), hF1.keep g12 (by simp), hF1.keep g20 (by simp), hF1.keep g21 (by simp), hF1.keep g22 (by simp)⟩)
          clear d1 d2 g10 g11 g12 g20 g21 g22 hF1
          (try go_wp2_with fail)
          refine hKk.out _ _ ?_ (fun hHeld => ?_)
          · exact unhide HS
          clear hKk Kk
          (try simp only [List.setIfInBounds_toArray, List.set_cons_zero, List.set_cons_succ])
          refine tkA 43 180 17592186044415 ?_
          refine tkA 44 181 35184372088831 ?_
          refine wpAnyH_done (by kernel_rfl) ?_ _
          go_wp2_with fail
          exact ⟨⟨i + 1, by omega, by go_num, unhide HF⟩, by simp [intOf]; omega⟩
        · obtain rfl : i = m.elems.length := by omega
          have V1 := hide ((unhide V1).fr hF (by simp))
          have V2 := hide ((unhide V2).fr hF (by simp))
          have HF0 := hide ((unhide HF0).trans hF)
          clear hF
          rename World => wB
          go_wp2_with fail
          clear d1 d2
          go_loopw [7] (fun v7 wr => ∃ (i : Nat), i ≤ m.datas.length ∧ v7 = .int .i64 (i : Int) ∧ Fr [] wB wr) (fun v7 _ => m.datas.length - (intOf v7).toNat)
          case atStart => exact ⟨0, by omega, rfl, Fr.refl _ _⟩
          case round =>
            obtain ⟨i, hi, rfl, hF⟩ := hrel
            have d1 := (((unhide V1).fr hF (by simp)) 10 _ rfl)
            have d2 := (((unhide V2).fr hF (by simp)) 10 _ rfl)
            by_cases hlt : i < m.datas.length
            · have hi' : (i : Int) < (m.datas.length : Int) := by omega
              have hi2 : (0 : Int) ≤ (i : Int) := by omega
              rcases unhide K10 with h0 | ⟨b1, o1, rfl, -, k1⟩
              · omega
              rcases unhide L10 with h0 | ⟨bb, oo, rfl, -, k2⟩
              · omega
              have hT := hm.doffs m.datas[i] (List.getElem_mem hlt)
              obtain ⟨_, ⟨p1, p2, rfl, s1, s2⟩, k1⟩ := k1 i m.datas[i] (List.getElem?_eq_getElem hlt)
              obtain ⟨_, ⟨q1, q2, rfl, t1, t2⟩, k2⟩ := k2 i m.datas[i] (List.getElem?_eq_getElem hlt)
              generalize m.datas[i] = x at *
              have hF2 := (unhide HF0).trans hF
              have g10 := hF2.keep (k1 0 (by decide)) (by simp)
              have g20 := hF2.keep (k2 0 (by decide)) (by simp)
              have g11 := hF2.keep (k1 1 (by decide)) (by simp)
              have g21 := hF2.keep (k2 1 (by decide)) (by simp)
              have g12 := hF2.keep (k1 2 (by decide)) (by simp)
              have g22 := hF2.keep (k2 2 (by decide)) (by simp)
              change wr.cell? ⟨b1, o1 + i * 3, none⟩ = some (.int .u32 x.1) at g10
              change wr.cell? ⟨bb, oo + i * 3, none⟩ = some (.int .u32 x.1) at g20
              change wr.cell? ⟨b1, o1 + i * 3 + 1, none⟩ = some (p1) at g11
              change wr.cell? ⟨bb, oo + i * 3 + 1, none⟩ = some (q1) at g21
              change wr.cell? ⟨b1, o1 + i * 3 + 2, none⟩ = some (p2) at g12
              change wr.cell? ⟨bb, oo + i * 3 + 2, none⟩ = some (q2) at g22
              have S1 := hide (s1.fr hF2 (by simp))
              have S2 := hide (s2.fr hF2 (by simp))
              have T1 := hide (t1.fr hF2 (by simp))
              have T2 := hide (t2.fr hF2 (by simp))
              have HF := hide hF
              clear k1 k2 hF hF2 s1 s2 t1 t2
              obtain ⟨sa, hsa⟩ : ∃ sa, strOfNums x.2.2 = sa := ⟨_, rfl⟩
              go_wp2_with fail
              have hdr : Fr [] wr wr.drew := (Fr.refl _ _).drew
              have S1 := hide ((unhide S1).fr hdr (by simp))
              have S2 := hide ((unhide S2).fr hdr (by simp))
              have T1 := hide ((unhide T1).fr hdr (by simp))
              have T2 := hide ((unhide T2).fr hdr (by simp))
              have HF := hide ((unhide HF).trans hdr)
              have HS := hide (show (fun w' => w'.cell? ⟨W.heap.size, 10, none⟩ = some (.slice (some ⟨b1, o1, none⟩) m.datas.length c10) ∧ w'.cell? ⟨W.heap.size + 1, 10, none⟩ = some (.slice (some ⟨bb, oo, none⟩) m.datas.length z10) ∧ w'.cell? ⟨b1, o1 + i * 3, none⟩ = some (.int .u32 x.1) ∧ w'.cell? ⟨b1, o1 + i * 3 + 1, none⟩ = some p1 ∧ w'.cell? ⟨b1, o1 + i * 3 + 2, none⟩ = some p2 ∧ w'.cell? ⟨bb, oo + i * 3, none⟩ = some (.int .u32 x.1) ∧ w'.cell? ⟨bb, oo + i * 3 + 1, none⟩ = some q1 ∧ w'.cell? ⟨bb, oo + i * 3 + 2, none⟩ = some q2 ∧ (convert 22 9 p2).run Tryz.prog w' = .ok (.string sa) w' ∧ (convert 22 9 q2).run Tryz.prog w' = .ok (.string sa) w') wr.drew from ⟨hdr.keep d1 (by simp), hdr.keep d2 (by simp), hdr.keep g10 (by simp), hdr.keep g11 (by simp), hdr.keep g12 (by simp), hdr.keep g20 (by simp), hdr.keep g21 (by simp), hdr.keep g22 (by simp), hsa ▸ conv_slc (unhide S2), hsa ▸ conv_slc (unhide T2)⟩)
              clear d1 d2 g10 g11 g12 g20 g21 g22 hdr
              refine wp_region_held_drew (S := (fun w' => w'.cell? ⟨W.heap.size, 10, none⟩ = some (.slice (some ⟨b1, o1, none⟩) m.datas.length c10) ∧ w'.cell? ⟨W.heap.size + 1, 10, none⟩ = some (.slice (some ⟨bb, oo, none⟩) m.datas.length z10) ∧ w'.cell? ⟨b1, o1 + i * 3, none⟩ = some (.int .u32 x.1) ∧ w'.cell? ⟨b1, o1 + i * 3 + 1, none⟩ = some p1 ∧ w'.cell? ⟨b1, o1 + i * 3 + 2, none⟩ = some p2 ∧ w'.cell? ⟨bb, oo + i * 3, none⟩ = some (.int .u32 x.1) ∧ w'.cell? ⟨bb, oo + i * 3 + 1, none⟩ = some q1 ∧ w'.cell? ⟨bb, oo + i * 3 + 2, none⟩ = some q2 ∧ (convert 22 9 p2).run Tryz.prog w' = .ok (.string sa) w' ∧ (convert 22 9 q2).run Tryz.prog w' = .ok (.string sa) w')) (by kernel_rfl) ?_ (fun hHeld => ?_)
              · exact unhide HS
              generalize wr.drew = wr at *
              refine lst0 46 (by kernel_rfl) ?_
              refine tkA 0 189 1 ?_
              refine tkA 1 190 3 ?_
              refine tkA 2 191 7 ?_
              refine tkA 3 192 15 ?_
              refine tkA 4 193 31 ?_
              refine tkA 5 194 63 ?_
              refine tkA 6 195 127 ?_
              refine tkA 7 196 255 ?_
              refine tkA 8 197 511 ?_
              refine tkA 9 198 1023 ?_
              refine tkA 10 199 2047 ?_
              refine tkA 11 200 4095 ?_
              refine tkA 12 201 8191 ?_
              refine tkA 13 202 16383 ?_
              refine tkA 14 203 32767 ?_
              refine tkA 15 204 65535 ?_
              refine tkA 16 205 131071 ?_
              refine tkA 17 206 262143 ?_
              refine tkA 18 207 524287 ?_
              refine tkA 19 208 1048575 ?_
              refine tkA 20 209 2097151 ?_
              refine tkA 21 210 4194303 ?_
              refine tkA 22 211 8388607 ?_
              refine tkA 23 212 16777215 ?_
              refine tkA 24 213 33554431 ?_
              refine tkA 25 214 67108863 ?_
              refine rdA 26 134217727 (fun Kk hKk => ?_)
              go_simp
              refine (same_any _ x.2.1 _ _ _ _ _ (Nat.lt_succ_self _) hT.1 hT.2 (unhide S1) (unhide T1)).mono ?_
              rintro _ w26 ⟨rfl, hF1⟩
              obtain ⟨d1, d2, g10, g11, g12, g20, g21, g22, -, -⟩ := unhide HS
              have S1 := hide ((unhide S1).fr hF1 (by simp))
              have S2 := hide ((unhide S2).fr hF1 (by simp))
              have T1 := hide ((unhide T1).fr hF1 (by simp))
              have T2 := hide ((unhide T2).fr hF1 (by simp))
              have HF := hide ((unhide HF).trans hF1)
              have HS := hide (show (fun w' => w'.cell? ⟨W.heap.size, 10, none⟩ = some (.slice (some ⟨b1, o1, none⟩) m.datas.length c10) ∧ w'.cell? ⟨W.heap.size + 1, 10, none⟩ = some (.slice (some ⟨bb, oo, none⟩) m.datas.length z10) ∧ w'.cell? ⟨b1, o1 + i * 3, none⟩ = some (.int .u32 x.1) ∧ w'.cell? ⟨b1, o1 + i * 3 + 1, none⟩ = some p1 ∧ w'.cell? ⟨b1, o1 + i * 3 + 2, none⟩ = some p2 ∧ w'.cell? ⟨bb, oo + i * 3, none⟩ = some (.int .u32 x.1) ∧ w'.cell? ⟨bb, oo + i * 3 + 1, none⟩ = some q1 ∧ w'.cell? ⟨bb, oo + i * 3 + 2, none⟩ = some q2 ∧ (convert 22 9 p2).run Tryz.prog w' = .ok (.string sa) w' ∧ (convert 22 9 q2).run Tryz.prog w' = .ok (.string sa) w') w26 from ⟨hF1.keep d1 (by simp), hF1.keep d2 (by simp), hF1.keep g10 (by simp), hF1.keep g11 (by simp), hF1.keep g12 (by simp), hF1.keep g20 (by simp), hF1.keep g21 (by simp), hF1.keep g22 (by simp), hsa ▸ conv_slc (unhide S2), hsa ▸ conv_slc (unhide T2)⟩)
              clear d1 d2 g10 g11 g12 g20 g21 g22 hF1
              (try go_wp2_with fail)
              refine hKk.out _ _ ?_ (fun hHeld => ?_)
              · exact unhide HS
              clear hKk Kk
              (try simp only [List.setIfInBounds_toArray, List.set_cons_zero, List.set_cons_succ])
              refine tkA 27 216 268435455 ?_
              refine tkA 28 217 536870911 ?_
              refine tkA 29 218 1073741823 ?_
              refine tkA 30 219 2147483647 ?_
              refine tkA 31 220 4294967295 ?_
              refine tkA 32 221 8589934591 ?_
              refine tkA 33 222 17179869183 ?_
              refine tkA 34 223 34359738367 ?_
              refine tkA 35 224 68719476735 ?_
              refine tkA 36 225 137438953471 ?_
              refine tkA 37 226 274877906943 ?_
              refine tkA 38 227 549755813887 ?_
              refine tkA 39 228 1099511627775 ?_
              refine tkA 40 229 2199023255551 ?_
              refine tkA 41 230 4398046511103 ?_
              refine tkA 42 231 8796093022207 ?_
              refine tkA 43 232 17592186044415 ?_
              refine tkA 44 233 35184372088831 ?_
              refine tkA 45 234 70368744177663 ?_
              refine wpAnyH_done (by kernel_rfl) ?_ _
              go_wp2_with fail
              exact ⟨⟨i + 1, by omega, by go_num, unhide HF⟩, by simp [intOf]; omega⟩
            · obtain rfl : i = m.datas.length := by omega
              have HF := hide ((unhide HF0).trans hF)
              clear hF
              go_wp2_with fail
              go_ret
              exact ⟨rfl, unhide HF⟩
end Go.Proofs.YtjoonmpjcophnaaGreatDoor
