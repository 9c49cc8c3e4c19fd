/- CdV. -/
import Derived.Test.YtalahdkgigcpfaaDoorG44
namespace Go.Proofs.YtalahdkgigcpfaaDoor
open Go.RowKit

set_option maxHeartbeats 8000000 in
set_option maxRecDepth 100000 in
theorem rins_6 {n : Nat} {may : Bool} {b y v : Int} {k1 : Nat} {c rb : Nat} {a : Option Addr} {len cap : Nat} {xs : List Int} {sat : Bool} {deep k : Nat} {W : World} (HI : Hid (QSeq c rb a len cap xs sat n)) (h : Rq c rb a len cap xs sat k 0 W) (hv : nxV xs k 0 = b) (hk : k < xs.length) (hd : Rd (rOpN sat) xs k 0 y k1 0) (ho : Rd (rOp sat may deep) xs k 0 y k1 0) (hy : 0 ≤ y) (hy5 : ¬ (y = 5 ∨ y = 11)) (him : Ct 58 #[.int .i64 y] (.int .i64 v)) (hi : imI y = 6) (hvv : v = 6) (h2 : decide (2 ≤ b) = true) (h4 : decide (b ≤ 4) = false)  : RInstrP c rb a len cap xs sat may deep k 0 W := by
  have HR := hide h
  have HO : Hid (Old W.heap.size c rb a len) := hide (h.old (Nat.le_refl W.heap.size))
  have HVl := hide hv
  have HNe : Hid (nxE xs k 0 = 0) := hide (by unfold nxE; rw [if_neg (by omega)])
  have HD := hide hd
  have HOp := hide ho
  have HY5 := hide hy5
  have HIm := hide him
  have hneg : ¬ y < 0 := by omega
  subst hvv
  have HV0 := hide hi
  have _ := HI
  clear hi
  clear h hv hk hd ho hy hy5 him
  unfold RInstrP
  go_enter Tryd.func39, Tryd.ntmps39
  go_wp2_with fail
  have hb := below1 W (.cells #[.int .i64 0, .int .u8 0, .int .u32 0, .int .u32 0, .int .u64 0, .slice none 0 0, .slice none 0 0, .slice none 0 0, .bool false] 73)
  have HR := hide ((unhide HR).bel hb)
  have HF := hide (Fr.of hb [c])
  have HV := hide (nr_0 W)
  generalize W.alloc (.cells #[.int .i64 0, .int .u8 0, .int .u32 0, .int .u32 0, .int .u64 0, .slice none 0 0, .slice none 0 0, .slice none 0 0, .bool false] 73) = wr at *
  refine (rnext_any (unhide HR)).mono ?_
  rintro _ w0 ⟨rfl, hR, hF⟩
  rw [unhide HVl]
  rw [unhide HNe] at hR
  have HR := hide hR
  have HV := hide ((unhide HV).fr hF (by have := (unhide HO).c; simp; omega))
  have HF := hide ((unhide HF).trans hF)
  clear hR hF hb
  clear HNe
  go_wp2_with fail
  have hop := rop_any (unhide HR)
  unfold OpP at hop
  refine hop.mono ?_
  clear hop
  rintro _ w1 ⟨y', k1', e1', rfl, hd', hR, hF⟩
  obtain ⟨q1, q2, q3⟩ := Rd.det (unhide HD) hd'
  subst q1
  subst q2
  obtain rfl := q3 rfl
  have HR := hide hR
  have HV := hide ((unhide HV).fr hF (by have := (unhide HO).c; simp; omega))
  have HF := hide ((unhide HF).trans hF)
  have HV1 := HV
  clear hR hF hd'
  rw [if_pos rfl]
  go_wp2_with fail
  have hb := below1 w1 (.cells #[.int .i64 y, .int .u8 0, .int .u32 0, .int .u32 0, .int .u64 0, .slice none 0 0, .slice none 0 0, .slice none 0 0, .bool false] 73)
  have hs := (unhide HF).size
  have HR := hide ((unhide HR).bel hb)
  have HF := hide ((unhide HF).bel hb)
  have HV := hide ((unhide HV).fr (Fr.of hb []) (by simp))
  have HN := hide (nr_1 w1 hs y)
  have HNi := hide (show W.heap.size < w1.heap.size from by have := (unhide HV1).lt; omega)
  generalize w1.alloc (.cells #[.int .i64 y, .int .u8 0, .int .u32 0, .int .u32 0, .int .u64 0, .slice none 0 0, .slice none 0 0, .slice none 0 0, .bool false] 73) = w2 at *
  generalize w1.heap.size = ib at *
  clear hb hs
  refine ((unhide (unhide HIm)) _).mono ?_
  rintro _ w3 ⟨rfl, hb⟩
  have HR := hide ((unhide HR).bel hb)
  have HF := hide ((unhide HF).bel hb)
  have HV := hide ((unhide HV).fr (Fr.of hb []) (by simp))
  have HN := hide ((unhide HN).fr (Fr.of hb []) (by simp))
  clear hb HIm
  have h0 := (unhide HR).rdr.1
  go_wp2_with fail
  clear h0
  have HX := hide (rUint_any (b := 32) (unhide HR).cur (by decide) (by decide))
  have HD1 : Hid (Rd (rU 32) xs k1 0 (lift (rU 32) 0 xs k1 0).1 (lift (rU 32) 0 xs k1 0).2.1 (lift (rU 32) 0 xs k1 0).2.2) := hide Rd.lift
  have hlt := liftU_lt (unhide HR).byt k1 0
  generalize lift (rU 32) 0 xs k1 0 = L at *
  obtain ⟨y1, kk1, ee1⟩ := L
  dsimp only at *
  have iw1 : IntKind.u32.wrap y1 = y1 := u32_id (by omega) (by omega)
  clear hlt
  refine (unhide HX).mono ?_
  rintro _ v1 ⟨rfl, hC, hF⟩
  have HR := hide ((unhide HR).step hF hC)
  have HF := hide ((unhide HF).trans hF)
  have HN := hide ((unhide HN).fr hF (by have := (unhide HO).c; have := (unhide HN).new; simp; omega))
  have HV := hide ((unhide HV).fr hF (by have := (unhide HO).c; simp; omega))
  clear hC hF HX
  have h0 := (unhide HR).rdr.1
  obtain ⟨⟨u, g⟩, fr⟩ := (unhide HN).room 2 (by decide)
  go_wp2_with fail
  clear fr g u
  clear h0
  have fA : Fr [ib] v1 (v1.setCell ⟨ib, 2, none⟩ (.int .u32 y1)) := (Fr.refl _ _).place _ _
  have HR := hide ((unhide HR).fr fA (unhide HO) (by have := (unhide HN).new; simp; omega))
  have HF := hide ((unhide HF).set 2 (Or.inr (unhide HN).new) (.int .u32 y1))
  have HN : Hid (Nv W.heap.size ib (hcells ⟨y, 0, y1, 0, 0, [], false⟩ (.slice none 0 0) (.slice none 0 0) (.slice none 0 0)) _) := hide ((unhide HN).set 2 (.int .u32 y1))
  have HV := hide ((unhide HV).fr fA (by have := unhide HNi; simp; omega))
  clear fA
  generalize v1.setCell ⟨ib, 2, none⟩ (.int .u32 y1) = v1s at *
  have HX := hide (rUint_any (b := 32) (unhide HR).cur (by decide) (by decide))
  have HD2 : Hid (Rd (rU 32) xs kk1 ee1 (lift (rU 32) 0 xs kk1 ee1).1 (lift (rU 32) 0 xs kk1 ee1).2.1 (lift (rU 32) 0 xs kk1 ee1).2.2) := hide Rd.lift
  have hlt := liftU_lt (unhide HR).byt kk1 ee1
  generalize lift (rU 32) 0 xs kk1 ee1 = L at *
  obtain ⟨y2, kk2, ee2⟩ := L
  dsimp only at *
  have iw2 : IntKind.u32.wrap y2 = y2 := u32_id (by omega) (by omega)
  clear hlt
  refine (unhide HX).mono ?_
  rintro _ v2 ⟨rfl, hC, hF⟩
  have HR := hide ((unhide HR).step hF hC)
  have HF := hide ((unhide HF).trans hF)
  have HN := hide ((unhide HN).fr hF (by have := (unhide HO).c; have := (unhide HN).new; simp; omega))
  have HV := hide ((unhide HV).fr hF (by have := (unhide HO).c; simp; omega))
  clear hC hF HX
  have t0 := (unhide HN).tab 0 _ rfl
  have z0 := (unhide HV).tab 0 _ rfl
  have fz0 := ((unhide HV).room 0 (by decide)).2
  have t1 := (unhide HN).tab 1 _ rfl
  have z1 := (unhide HV).tab 1 _ rfl
  have fz1 := ((unhide HV).room 1 (by decide)).2
  have t2 := (unhide HN).tab 2 _ rfl
  have z2 := (unhide HV).tab 2 _ rfl
  have fz2 := ((unhide HV).room 2 (by decide)).2
  have t3 := (unhide HN).tab 3 _ rfl
  have z3 := (unhide HV).tab 3 _ rfl
  have fz3 := ((unhide HV).room 3 (by decide)).2
  have t4 := (unhide HN).tab 4 _ rfl
  have z4 := (unhide HV).tab 4 _ rfl
  have fz4 := ((unhide HV).room 4 (by decide)).2
  have t5 := (unhide HN).tab 5 _ rfl
  have z5 := (unhide HV).tab 5 _ rfl
  have fz5 := ((unhide HV).room 5 (by decide)).2
  have t6 := (unhide HN).tab 6 _ rfl
  have z6 := (unhide HV).tab 6 _ rfl
  have fz6 := ((unhide HV).room 6 (by decide)).2
  have t7 := (unhide HN).tab 7 _ rfl
  have z7 := (unhide HV).tab 7 _ rfl
  have fz7 := ((unhide HV).room 7 (by decide)).2
  have t8 := (unhide HN).tab 8 _ rfl
  have z8 := (unhide HV).tab 8 _ rfl
  have fz8 := ((unhide HV).room 8 (by decide)).2
  have pf := ((unhide HN).room 3 (by decide)).2
  have ne1 : ¬ ib = W.heap.size := by have := unhide HNi; omega
  have ne2 : ¬ W.heap.size = ib := by have := unhide HNi; omega
  (try dsimp only [hd0] at t0 t1 t2 t3 t4 t8)
  (try dsimp only [hd0] at z0 z1 z2 z3 z4 z8)
  go_wp2_with fail
  have fA : Fr [ib] v2 (v2.setCell ⟨ib, 3, none⟩ (.int .u32 y2)) := (Fr.refl _ _).place _ _
  have HR := hide ((unhide HR).fr fA (unhide HO) (by have := (unhide HN).new; simp; omega))
  have HF := hide ((unhide HF).set 3 (Or.inr (unhide HN).new) (.int .u32 y2))
  have HN : Hid (Nv W.heap.size ib (hcells ⟨y, 0, y1, y2, 0, [], false⟩ (.slice none 0 0) (.slice none 0 0) (.slice none 0 0)) _) := hide ((unhide HN).set 3 (.int .u32 y2))
  have HV := hide ((unhide HV).fr fA (by have := unhide HNi; simp; omega))
  clear fA
  refine bodyPost_ret (v := .agg #[.int .i64 y, .int .u8 0, .int .u32 y1, .int .u32 y2, .int .u64 0, .slice none 0 0, .slice none 0 0, .slice none 0 0, .bool false]) (by simp [results, Tryd.results39, go_sem, z0, z1, z2, z3, z4, z5, z6, z7, z8]) rfl ?_
  have fZ := fun w => fr_set9 w W.heap.size (.int .i64 y) (.int .u8 0) (.int .u32 y1) (.int .u32 y2) (.int .u64 0) (.slice none 0 0) (.slice none 0 0) (.slice none 0 0) (.bool false)
  refine ⟨⟨y, 0, y1, y2, 0, [], false⟩, none, 0, 0, none, 0, 0, none, 0, 0, y, k1, 0, (⟨y, 0, y1, y2, 0, [], false⟩, .nil, .nil), _, _, rfl, unhide HOp, fun _ => unhide HY5, ?_, fun _ => ⟨rfl, slc_nil _ _, fov_nil _ _, fov_nil _ _⟩, (unhide HR).fr (fZ _) (unhide HO) (by simp), (unhide HF).thenL (fZ _) (by simp)⟩
  rw [show rRest (sq sat) deep y = bd inz (rU 32) fun a => bd inz (rU 32) fun b => giv ({ hd0 y with a := a, b := b }, .nil, .nil) by unfold rRest rPlain; rw [unhide HV0]; rfl]
  exact (unhide HD1).bd ((unhide HD2).bd (Rd.giv _ _ _ _))
set_option maxHeartbeats 8000000 in
set_option maxRecDepth 100000 in
theorem rins_7 {n : Nat} {may : Bool} {b y v : Int} {k1 : Nat} {c rb : Nat} {a : Option Addr} {len cap : Nat} {xs : List Int} {sat : Bool} {deep k : Nat} {W : World} (HI : Hid (QSeq c rb a len cap xs sat n)) (h : Rq c rb a len cap xs sat k 0 W) (hv : nxV xs k 0 = b) (hk : k < xs.length) (hd : Rd (rOpN sat) xs k 0 y k1 0) (ho : Rd (rOp sat may deep) xs k 0 y k1 0) (hy : 0 ≤ y) (hy5 : ¬ (y = 5 ∨ y = 11)) (him : Ct 58 #[.int .i64 y] (.int .i64 v)) (hi : imI y = 7) (hvv : v = 7) (h2 : decide (2 ≤ b) = true) (h4 : decide (b ≤ 4) = false)  : RInstrP c rb a len cap xs sat may deep k 0 W := by
  have HR := hide h
  have HO : Hid (Old W.heap.size c rb a len) := hide (h.old (Nat.le_refl W.heap.size))
  have HVl := hide hv
  have HNe : Hid (nxE xs k 0 = 0) := hide (by unfold nxE; rw [if_neg (by omega)])
  have HD := hide hd
  have HOp := hide ho
  have HY5 := hide hy5
  have HIm := hide him
  have hneg : ¬ y < 0 := by omega
  subst hvv
  have HV0 := hide hi
  have _ := HI
  clear hi
  clear h hv hk hd ho hy hy5 him
  unfold RInstrP
  go_enter Tryd.func39, Tryd.ntmps39
  go_wp2_with fail
  have hb := below1 W (.cells #[.int .i64 0, .int .u8 0, .int .u32 0, .int .u32 0, .int .u64 0, .slice none 0 0, .slice none 0 0, .slice none 0 0, .bool false] 73)
  have HR := hide ((unhide HR).bel hb)
  have HF := hide (Fr.of hb [c])
  have HV := hide (nr_0 W)
  generalize W.alloc (.cells #[.int .i64 0, .int .u8 0, .int .u32 0, .int .u32 0, .int .u64 0, .slice none 0 0, .slice none 0 0, .slice none 0 0, .bool false] 73) = wr at *
  refine (rnext_any (unhide HR)).mono ?_
  rintro _ w0 ⟨rfl, hR, hF⟩
  rw [unhide HVl]
  rw [unhide HNe] at hR
  have HR := hide hR
  have HV := hide ((unhide HV).fr hF (by have := (unhide HO).c; simp; omega))
  have HF := hide ((unhide HF).trans hF)
  clear hR hF hb
  clear HNe
  go_wp2_with fail
  have hop := rop_any (unhide HR)
  unfold OpP at hop
  refine hop.mono ?_
  clear hop
  rintro _ w1 ⟨y', k1', e1', rfl, hd', hR, hF⟩
  obtain ⟨q1, q2, q3⟩ := Rd.det (unhide HD) hd'
  subst q1
  subst q2
  obtain rfl := q3 rfl
  have HR := hide hR
  have HV := hide ((unhide HV).fr hF (by have := (unhide HO).c; simp; omega))
  have HF := hide ((unhide HF).trans hF)
  have HV1 := HV
  clear hR hF hd'
  rw [if_pos rfl]
  go_wp2_with fail
  have hb := below1 w1 (.cells #[.int .i64 y, .int .u8 0, .int .u32 0, .int .u32 0, .int .u64 0, .slice none 0 0, .slice none 0 0, .slice none 0 0, .bool false] 73)
  have hs := (unhide HF).size
  have HR := hide ((unhide HR).bel hb)
  have HF := hide ((unhide HF).bel hb)
  have HV := hide ((unhide HV).fr (Fr.of hb []) (by simp))
  have HN := hide (nr_1 w1 hs y)
  have HNi := hide (show W.heap.size < w1.heap.size from by have := (unhide HV1).lt; omega)
  generalize w1.alloc (.cells #[.int .i64 y, .int .u8 0, .int .u32 0, .int .u32 0, .int .u64 0, .slice none 0 0, .slice none 0 0, .slice none 0 0, .bool false] 73) = w2 at *
  generalize w1.heap.size = ib at *
  clear hb hs
  refine ((unhide (unhide HIm)) _).mono ?_
  rintro _ w3 ⟨rfl, hb⟩
  have HR := hide ((unhide HR).bel hb)
  have HF := hide ((unhide HF).bel hb)
  have HV := hide ((unhide HV).fr (Fr.of hb []) (by simp))
  have HN := hide ((unhide HN).fr (Fr.of hb []) (by simp))
  clear hb HIm
  have h0 := (unhide HR).rdr.1
  go_wp2_with fail
  clear h0
  refine (rzero_any (unhide HR)).mono ?_
  rintro _ v1 ⟨kk1, ee1, rfl, hd, hR, hF⟩
  have HD1 := hide hd
  have HR := hide hR
  have HF := hide ((unhide HF).trans hF)
  have HN := hide ((unhide HN).fr hF (by have := (unhide HO).c; have := (unhide HN).new; simp; omega))
  have HV := hide ((unhide HV).fr hF (by have := (unhide HO).c; simp; omega))
  clear hd hR hF
  have t0 := (unhide HN).tab 0 _ rfl
  have z0 := (unhide HV).tab 0 _ rfl
  have fz0 := ((unhide HV).room 0 (by decide)).2
  have t1 := (unhide HN).tab 1 _ rfl
  have z1 := (unhide HV).tab 1 _ rfl
  have fz1 := ((unhide HV).room 1 (by decide)).2
  have t2 := (unhide HN).tab 2 _ rfl
  have z2 := (unhide HV).tab 2 _ rfl
  have fz2 := ((unhide HV).room 2 (by decide)).2
  have t3 := (unhide HN).tab 3 _ rfl
  have z3 := (unhide HV).tab 3 _ rfl
  have fz3 := ((unhide HV).room 3 (by decide)).2
  have t4 := (unhide HN).tab 4 _ rfl
  have z4 := (unhide HV).tab 4 _ rfl
  have fz4 := ((unhide HV).room 4 (by decide)).2
  have t5 := (unhide HN).tab 5 _ rfl
  have z5 := (unhide HV).tab 5 _ rfl
  have fz5 := ((unhide HV).room 5 (by decide)).2
  have t6 := (unhide HN).tab 6 _ rfl
  have z6 := (unhide HV).tab 6 _ rfl
  have fz6 := ((unhide HV).room 6 (by decide)).2
  have t7 := (unhide HN).tab 7 _ rfl
  have z7 := (unhide HV).tab 7 _ rfl
  have fz7 := ((unhide HV).room 7 (by decide)).2
  have t8 := (unhide HN).tab 8 _ rfl
  have z8 := (unhide HV).tab 8 _ rfl
  have fz8 := ((unhide HV).room 8 (by decide)).2
  have ne1 : ¬ ib = W.heap.size := by have := unhide HNi; omega
  have ne2 : ¬ W.heap.size = ib := by have := unhide HNi; omega
  (try dsimp only [hd0] at t0 t1 t2 t3 t4 t8)
  (try dsimp only [hd0] at z0 z1 z2 z3 z4 z8)
  go_wp2_with fail
  refine bodyPost_ret (v := .agg #[.int .i64 y, .int .u8 0, .int .u32 0, .int .u32 0, .int .u64 0, .slice none 0 0, .slice none 0 0, .slice none 0 0, .bool false]) (by simp [results, Tryd.results39, go_sem, z0, z1, z2, z3, z4, z5, z6, z7, z8]) rfl ?_
  have fZ := fun w => fr_set9 w W.heap.size (.int .i64 y) (.int .u8 0) (.int .u32 0) (.int .u32 0) (.int .u64 0) (.slice none 0 0) (.slice none 0 0) (.slice none 0 0) (.bool false)
  refine ⟨⟨y, 0, 0, 0, 0, [], false⟩, none, 0, 0, none, 0, 0, none, 0, 0, y, k1, 0, (⟨y, 0, 0, 0, 0, [], false⟩, .nil, .nil), _, _, rfl, unhide HOp, fun _ => unhide HY5, ?_, fun _ => ⟨rfl, slc_nil _ _, fov_nil _ _, fov_nil _ _⟩, (unhide HR).fr (fZ _) (unhide HO) (by simp), (unhide HF).thenL (fZ _) (by simp)⟩
  rw [show rRest (sq sat) deep y = bd inz r0 fun _ => giv (hd0 y, .nil, .nil) by unfold rRest rPlain; rw [unhide HV0]; rfl]
  exact (unhide HD1).bd (Rd.giv _ _ _ _)
set_option maxHeartbeats 8000000 in
set_option maxRecDepth 100000 in
theorem rins_8 {n : Nat} {may : Bool} {b y v : Int} {k1 : Nat} {c rb : Nat} {a : Option Addr} {len cap : Nat} {xs : List Int} {sat : Bool} {deep k : Nat} {W : World} (HI : Hid (QSeq c rb a len cap xs sat n)) (h : Rq c rb a len cap xs sat k 0 W) (hv : nxV xs k 0 = b) (hk : k < xs.length) (hd : Rd (rOpN sat) xs k 0 y k1 0) (ho : Rd (rOp sat may deep) xs k 0 y k1 0) (hy : 0 ≤ y) (hy5 : ¬ (y = 5 ∨ y = 11)) (him : Ct 58 #[.int .i64 y] (.int .i64 v)) (hi : imI y = 8) (hvv : v = 8) (h2 : decide (2 ≤ b) = true) (h4 : decide (b ≤ 4) = false)  : RInstrP c rb a len cap xs sat may deep k 0 W := by
  have HR := hide h
  have HO : Hid (Old W.heap.size c rb a len) := hide (h.old (Nat.le_refl W.heap.size))
  have HVl := hide hv
  have HNe : Hid (nxE xs k 0 = 0) := hide (by unfold nxE; rw [if_neg (by omega)])
  have HD := hide hd
  have HOp := hide ho
  have HY5 := hide hy5
  have HIm := hide him
  have hneg : ¬ y < 0 := by omega
  subst hvv
  have HV0 := hide hi
  have _ := HI
  clear hi
  clear h hv hk hd ho hy hy5 him
  unfold RInstrP
  go_enter Tryd.func39, Tryd.ntmps39
  go_wp2_with fail
  have hb := below1 W (.cells #[.int .i64 0, .int .u8 0, .int .u32 0, .int .u32 0, .int .u64 0, .slice none 0 0, .slice none 0 0, .slice none 0 0, .bool false] 73)
  have HR := hide ((unhide HR).bel hb)
  have HF := hide (Fr.of hb [c])
  have HV := hide (nr_0 W)
  generalize W.alloc (.cells #[.int .i64 0, .int .u8 0, .int .u32 0, .int .u32 0, .int .u64 0, .slice none 0 0, .slice none 0 0, .slice none 0 0, .bool false] 73) = wr at *
  refine (rnext_any (unhide HR)).mono ?_
  rintro _ w0 ⟨rfl, hR, hF⟩
  rw [unhide HVl]
  rw [unhide HNe] at hR
  have HR := hide hR
  have HV := hide ((unhide HV).fr hF (by have := (unhide HO).c; simp; omega))
  have HF := hide ((unhide HF).trans hF)
  clear hR hF hb
  clear HNe
  go_wp2_with fail
  have hop := rop_any (unhide HR)
  unfold OpP at hop
  refine hop.mono ?_
  clear hop
  rintro _ w1 ⟨y', k1', e1', rfl, hd', hR, hF⟩
  obtain ⟨q1, q2, q3⟩ := Rd.det (unhide HD) hd'
  subst q1
  subst q2
  obtain rfl := q3 rfl
  have HR := hide hR
  have HV := hide ((unhide HV).fr hF (by have := (unhide HO).c; simp; omega))
  have HF := hide ((unhide HF).trans hF)
  have HV1 := HV
  clear hR hF hd'
  rw [if_pos rfl]
  go_wp2_with fail
  have hb := below1 w1 (.cells #[.int .i64 y, .int .u8 0, .int .u32 0, .int .u32 0, .int .u64 0, .slice none 0 0, .slice none 0 0, .slice none 0 0, .bool false] 73)
  have hs := (unhide HF).size
  have HR := hide ((unhide HR).bel hb)
  have HF := hide ((unhide HF).bel hb)
  have HV := hide ((unhide HV).fr (Fr.of hb []) (by simp))
  have HN := hide (nr_1 w1 hs y)
  have HNi := hide (show W.heap.size < w1.heap.size from by have := (unhide HV1).lt; omega)
  generalize w1.alloc (.cells #[.int .i64 y, .int .u8 0, .int .u32 0, .int .u32 0, .int .u64 0, .slice none 0 0, .slice none 0 0, .slice none 0 0, .bool false] 73) = w2 at *
  generalize w1.heap.size = ib at *
  clear hb hs
  refine ((unhide (unhide HIm)) _).mono ?_
  rintro _ w3 ⟨rfl, hb⟩
  have HR := hide ((unhide HR).bel hb)
  have HF := hide ((unhide HF).bel hb)
  have HV := hide ((unhide HV).fr (Fr.of hb []) (by simp))
  have HN := hide ((unhide HN).fr (Fr.of hb []) (by simp))
  clear hb HIm
  have h0 := (unhide HR).rdr.1
  go_wp2_with fail
  clear h0
  obtain ⟨y1, kk1, ee1, hd, hx⟩ := rs32b (unhide HR).cur
  have HX := hide hx
  have HD1 := hide hd
  clear hx hd
  refine (unhide HX).mono ?_
  rintro _ v1 ⟨rfl, hC, hF⟩
  have HR := hide ((unhide HR).step hF hC)
  have HF := hide ((unhide HF).trans hF)
  have HN := hide ((unhide HN).fr hF (by have := (unhide HO).c; have := (unhide HN).new; simp; omega))
  have HV := hide ((unhide HV).fr hF (by have := (unhide HO).c; simp; omega))
  clear hC hF HX
  have t0 := (unhide HN).tab 0 _ rfl
  have z0 := (unhide HV).tab 0 _ rfl
  have fz0 := ((unhide HV).room 0 (by decide)).2
  have t1 := (unhide HN).tab 1 _ rfl
  have z1 := (unhide HV).tab 1 _ rfl
  have fz1 := ((unhide HV).room 1 (by decide)).2
  have t2 := (unhide HN).tab 2 _ rfl
  have z2 := (unhide HV).tab 2 _ rfl
  have fz2 := ((unhide HV).room 2 (by decide)).2
  have t3 := (unhide HN).tab 3 _ rfl
  have z3 := (unhide HV).tab 3 _ rfl
  have fz3 := ((unhide HV).room 3 (by decide)).2
  have t4 := (unhide HN).tab 4 _ rfl
  have z4 := (unhide HV).tab 4 _ rfl
  have fz4 := ((unhide HV).room 4 (by decide)).2
  have t5 := (unhide HN).tab 5 _ rfl
  have z5 := (unhide HV).tab 5 _ rfl
  have fz5 := ((unhide HV).room 5 (by decide)).2
  have t6 := (unhide HN).tab 6 _ rfl
  have z6 := (unhide HV).tab 6 _ rfl
  have fz6 := ((unhide HV).room 6 (by decide)).2
  have t7 := (unhide HN).tab 7 _ rfl
  have z7 := (unhide HV).tab 7 _ rfl
  have fz7 := ((unhide HV).room 7 (by decide)).2
  have t8 := (unhide HN).tab 8 _ rfl
  have z8 := (unhide HV).tab 8 _ rfl
  have fz8 := ((unhide HV).room 8 (by decide)).2
  have pf := ((unhide HN).room 4 (by decide)).2
  have ne1 : ¬ ib = W.heap.size := by have := unhide HNi; omega
  have ne2 : ¬ W.heap.size = ib := by have := unhide HNi; omega
  (try dsimp only [hd0] at t0 t1 t2 t3 t4 t8)
  (try dsimp only [hd0] at z0 z1 z2 z3 z4 z8)
  go_wp2_with fail
  have fA : Fr [ib] v1 (v1.setCell ⟨ib, 4, none⟩ (.int .u64 y1)) := (Fr.refl _ _).place _ _
  have HR := hide ((unhide HR).fr fA (unhide HO) (by have := (unhide HN).new; simp; omega))
  have HF := hide ((unhide HF).set 4 (Or.inr (unhide HN).new) (.int .u64 y1))
  have HN : Hid (Nv W.heap.size ib (hcells ⟨y, 0, 0, 0, y1, [], false⟩ (.slice none 0 0) (.slice none 0 0) (.slice none 0 0)) _) := hide ((unhide HN).set 4 (.int .u64 y1))
  have HV := hide ((unhide HV).fr fA (by have := unhide HNi; simp; omega))
  clear fA
  refine bodyPost_ret (v := .agg #[.int .i64 y, .int .u8 0, .int .u32 0, .int .u32 0, .int .u64 y1, .slice none 0 0, .slice none 0 0, .slice none 0 0, .bool false]) (by simp [results, Tryd.results39, go_sem, z0, z1, z2, z3, z4, z5, z6, z7, z8]) rfl ?_
  have fZ := fun w => fr_set9 w W.heap.size (.int .i64 y) (.int .u8 0) (.int .u32 0) (.int .u32 0) (.int .u64 y1) (.slice none 0 0) (.slice none 0 0) (.slice none 0 0) (.bool false)
  refine ⟨⟨y, 0, 0, 0, y1, [], false⟩, none, 0, 0, none, 0, 0, none, 0, 0, y, k1, 0, (⟨y, 0, 0, 0, y1, [], false⟩, .nil, .nil), _, _, rfl, unhide HOp, fun _ => unhide HY5, ?_, fun _ => ⟨rfl, slc_nil _ _, fov_nil _ _, fov_nil _ _⟩, (unhide HR).fr (fZ _) (unhide HO) (by simp), (unhide HF).thenL (fZ _) (by simp)⟩
  rw [show rRest (sq sat) deep y = bd inz rS32 fun x => giv ({ hd0 y with bits := x }, .nil, .nil) by unfold rRest rPlain; rw [unhide HV0]; rfl]
  exact (unhide HD1).bd (Rd.giv _ _ _ _)
set_option maxHeartbeats 8000000 in
set_option maxRecDepth 100000 in
theorem rins_9 {n : Nat} {may : Bool} {b y v : Int} {k1 : Nat} {c rb : Nat} {a : Option Addr} {len cap : Nat} {xs : List Int} {sat : Bool} {deep k : Nat} {W : World} (HI : Hid (QSeq c rb a len cap xs sat n)) (h : Rq c rb a len cap xs sat k 0 W) (hv : nxV xs k 0 = b) (hk : k < xs.length) (hd : Rd (rOpN sat) xs k 0 y k1 0) (ho : Rd (rOp sat may deep) xs k 0 y k1 0) (hy : 0 ≤ y) (hy5 : ¬ (y = 5 ∨ y = 11)) (him : Ct 58 #[.int .i64 y] (.int .i64 v)) (hi : imI y = 9) (hvv : v = 9) (h2 : decide (2 ≤ b) = true) (h4 : decide (b ≤ 4) = false)  : RInstrP c rb a len cap xs sat may deep k 0 W := by
  have HR := hide h
  have HO : Hid (Old W.heap.size c rb a len) := hide (h.old (Nat.le_refl W.heap.size))
  have HVl := hide hv
  have HNe : Hid (nxE xs k 0 = 0) := hide (by unfold nxE; rw [if_neg (by omega)])
  have HD := hide hd
  have HOp := hide ho
  have HY5 := hide hy5
  have HIm := hide him
  have hneg : ¬ y < 0 := by omega
  subst hvv
  have HV0 := hide hi
  have _ := HI
  clear hi
  clear h hv hk hd ho hy hy5 him
  unfold RInstrP
  go_enter Tryd.func39, Tryd.ntmps39
  go_wp2_with fail
  have hb := below1 W (.cells #[.int .i64 0, .int .u8 0, .int .u32 0, .int .u32 0, .int .u64 0, .slice none 0 0, .slice none 0 0, .slice none 0 0, .bool false] 73)
  have HR := hide ((unhide HR).bel hb)
  have HF := hide (Fr.of hb [c])
  have HV := hide (nr_0 W)
  generalize W.alloc (.cells #[.int .i64 0, .int .u8 0, .int .u32 0, .int .u32 0, .int .u64 0, .slice none 0 0, .slice none 0 0, .slice none 0 0, .bool false] 73) = wr at *
  refine (rnext_any (unhide HR)).mono ?_
  rintro _ w0 ⟨rfl, hR, hF⟩
  rw [unhide HVl]
  rw [unhide HNe] at hR
  have HR := hide hR
  have HV := hide ((unhide HV).fr hF (by have := (unhide HO).c; simp; omega))
  have HF := hide ((unhide HF).trans hF)
  clear hR hF hb
  clear HNe
  go_wp2_with fail
  have hop := rop_any (unhide HR)
  unfold OpP at hop
  refine hop.mono ?_
  clear hop
  rintro _ w1 ⟨y', k1', e1', rfl, hd', hR, hF⟩
  obtain ⟨q1, q2, q3⟩ := Rd.det (unhide HD) hd'
  subst q1
  subst q2
  obtain rfl := q3 rfl
  have HR := hide hR
  have HV := hide ((unhide HV).fr hF (by have := (unhide HO).c; simp; omega))
  have HF := hide ((unhide HF).trans hF)
  have HV1 := HV
  clear hR hF hd'
  rw [if_pos rfl]
  go_wp2_with fail
  have hb := below1 w1 (.cells #[.int .i64 y, .int .u8 0, .int .u32 0, .int .u32 0, .int .u64 0, .slice none 0 0, .slice none 0 0, .slice none 0 0, .bool false] 73)
  have hs := (unhide HF).size
  have HR := hide ((unhide HR).bel hb)
  have HF := hide ((unhide HF).bel hb)
  have HV := hide ((unhide HV).fr (Fr.of hb []) (by simp))
  have HN := hide (nr_1 w1 hs y)
  have HNi := hide (show W.heap.size < w1.heap.size from by have := (unhide HV1).lt; omega)
  generalize w1.alloc (.cells #[.int .i64 y, .int .u8 0, .int .u32 0, .int .u32 0, .int .u64 0, .slice none 0 0, .slice none 0 0, .slice none 0 0, .bool false] 73) = w2 at *
  generalize w1.heap.size = ib at *
  clear hb hs
  refine ((unhide (unhide HIm)) _).mono ?_
  rintro _ w3 ⟨rfl, hb⟩
  have HR := hide ((unhide HR).bel hb)
  have HF := hide ((unhide HF).bel hb)
  have HV := hide ((unhide HV).fr (Fr.of hb []) (by simp))
  have HN := hide ((unhide HN).fr (Fr.of hb []) (by simp))
  clear hb HIm
  have h0 := (unhide HR).rdr.1
  go_wp2_with fail
  clear h0
  have HX := hide (rSint_any (b := 64) (unhide HR).cur (by decide) (by decide) (by decide))
  have HD1 : Hid (Rd (rS 64) xs k1 0 (lift (rS 64) 0 xs k1 0).1 (lift (rS 64) 0 xs k1 0).2.1 (lift (rS 64) 0 xs k1 0).2.2) := hide Rd.lift
  generalize lift (rS 64) 0 xs k1 0 = L at *
  obtain ⟨y1, kk1, ee1⟩ := L
  dsimp only at *
  refine (unhide HX).mono ?_
  rintro _ v1 ⟨rfl, hC, hF⟩
  have HR := hide ((unhide HR).step hF hC)
  have HF := hide ((unhide HF).trans hF)
  have HN := hide ((unhide HN).fr hF (by have := (unhide HO).c; have := (unhide HN).new; simp; omega))
  have HV := hide ((unhide HV).fr hF (by have := (unhide HO).c; simp; omega))
  clear hC hF HX
  have t0 := (unhide HN).tab 0 _ rfl
  have z0 := (unhide HV).tab 0 _ rfl
  have fz0 := ((unhide HV).room 0 (by decide)).2
  have t1 := (unhide HN).tab 1 _ rfl
  have z1 := (unhide HV).tab 1 _ rfl
  have fz1 := ((unhide HV).room 1 (by decide)).2
  have t2 := (unhide HN).tab 2 _ rfl
  have z2 := (unhide HV).tab 2 _ rfl
  have fz2 := ((unhide HV).room 2 (by decide)).2
  have t3 := (unhide HN).tab 3 _ rfl
  have z3 := (unhide HV).tab 3 _ rfl
  have fz3 := ((unhide HV).room 3 (by decide)).2
  have t4 := (unhide HN).tab 4 _ rfl
  have z4 := (unhide HV).tab 4 _ rfl
  have fz4 := ((unhide HV).room 4 (by decide)).2
  have t5 := (unhide HN).tab 5 _ rfl
  have z5 := (unhide HV).tab 5 _ rfl
  have fz5 := ((unhide HV).room 5 (by decide)).2
  have t6 := (unhide HN).tab 6 _ rfl
  have z6 := (unhide HV).tab 6 _ rfl
  have fz6 := ((unhide HV).room 6 (by decide)).2
  have t7 := (unhide HN).tab 7 _ rfl
  have z7 := (unhide HV).tab 7 _ rfl
  have fz7 := ((unhide HV).room 7 (by decide)).2
  have t8 := (unhide HN).tab 8 _ rfl
  have z8 := (unhide HV).tab 8 _ rfl
  have fz8 := ((unhide HV).room 8 (by decide)).2
  have pf := ((unhide HN).room 4 (by decide)).2
  have ne1 : ¬ ib = W.heap.size := by have := unhide HNi; omega
  have ne2 : ¬ W.heap.size = ib := by have := unhide HNi; omega
  (try dsimp only [hd0] at t0 t1 t2 t3 t4 t8)
  (try dsimp only [hd0] at z0 z1 z2 z3 z4 z8)
  go_wp2_with fail
  have fA : Fr [ib] v1 (v1.setCell ⟨ib, 4, none⟩ (.int .u64 y1)) := (Fr.refl _ _).place _ _
  have HR := hide ((unhide HR).fr fA (unhide HO) (by have := (unhide HN).new; simp; omega))
  have HF := hide ((unhide HF).set 4 (Or.inr (unhide HN).new) (.int .u64 y1))
  have HN : Hid (Nv W.heap.size ib (hcells ⟨y, 0, 0, 0, y1, [], false⟩ (.slice none 0 0) (.slice none 0 0) (.slice none 0 0)) _) := hide ((unhide HN).set 4 (.int .u64 y1))
  have HV := hide ((unhide HV).fr fA (by have := unhide HNi; simp; omega))
  clear fA
  refine bodyPost_ret (v := .agg #[.int .i64 y, .int .u8 0, .int .u32 0, .int .u32 0, .int .u64 y1, .slice none 0 0, .slice none 0 0, .slice none 0 0, .bool false]) (by simp [results, Tryd.results39, go_sem, z0, z1, z2, z3, z4, z5, z6, z7, z8]) rfl ?_
  have fZ := fun w => fr_set9 w W.heap.size (.int .i64 y) (.int .u8 0) (.int .u32 0) (.int .u32 0) (.int .u64 y1) (.slice none 0 0) (.slice none 0 0) (.slice none 0 0) (.bool false)
  refine ⟨⟨y, 0, 0, 0, y1, [], false⟩, none, 0, 0, none, 0, 0, none, 0, 0, y, k1, 0, (⟨y, 0, 0, 0, y1, [], false⟩, .nil, .nil), _, _, rfl, unhide HOp, fun _ => unhide HY5, ?_, fun _ => ⟨rfl, slc_nil _ _, fov_nil _ _, fov_nil _ _⟩, (unhide HR).fr (fZ _) (unhide HO) (by simp), (unhide HF).thenL (fZ _) (by simp)⟩
  rw [show rRest (sq sat) deep y = bd inz (rS 64) fun x => giv ({ hd0 y with bits := x }, .nil, .nil) by unfold rRest rPlain; rw [unhide HV0]; rfl]
  exact (unhide HD1).bd (Rd.giv _ _ _ _)
set_option maxHeartbeats 8000000 in
set_option maxRecDepth 100000 in
theorem rins_10 {n : Nat} {may : Bool} {b y v : Int} {k1 : Nat} {c rb : Nat} {a : Option Addr} {len cap : Nat} {xs : List Int} {sat : Bool} {deep k : Nat} {W : World} (HI : Hid (QSeq c rb a len cap xs sat n)) (h : Rq c rb a len cap xs sat k 0 W) (hv : nxV xs k 0 = b) (hk : k < xs.length) (hd : Rd (rOpN sat) xs k 0 y k1 0) (ho : Rd (rOp sat may deep) xs k 0 y k1 0) (hy : 0 ≤ y) (hy5 : ¬ (y = 5 ∨ y = 11)) (him : Ct 58 #[.int .i64 y] (.int .i64 v)) (hi : imI y = 10) (hvv : v = 10) (h2 : decide (2 ≤ b) = true) (h4 : decide (b ≤ 4) = false)  : RInstrP c rb a len cap xs sat may deep k 0 W := by
  have HR := hide h
  have HO : Hid (Old W.heap.size c rb a len) := hide (h.old (Nat.le_refl W.heap.size))
  have HVl := hide hv
  have HNe : Hid (nxE xs k 0 = 0) := hide (by unfold nxE; rw [if_neg (by omega)])
  have HD := hide hd
  have HOp := hide ho
  have HY5 := hide hy5
  have HIm := hide him
  have hneg : ¬ y < 0 := by omega
  subst hvv
  have HV0 := hide hi
  have _ := HI
  clear hi
  clear h hv hk hd ho hy hy5 him
  unfold RInstrP
  go_enter Tryd.func39, Tryd.ntmps39
  go_wp2_with fail
  have hb := below1 W (.cells #[.int .i64 0, .int .u8 0, .int .u32 0, .int .u32 0, .int .u64 0, .slice none 0 0, .slice none 0 0, .slice none 0 0, .bool false] 73)
  have HR := hide ((unhide HR).bel hb)
  have HF := hide (Fr.of hb [c])
  have HV := hide (nr_0 W)
  generalize W.alloc (.cells #[.int .i64 0, .int .u8 0, .int .u32 0, .int .u32 0, .int .u64 0, .slice none 0 0, .slice none 0 0, .slice none 0 0, .bool false] 73) = wr at *
  refine (rnext_any (unhide HR)).mono ?_
  rintro _ w0 ⟨rfl, hR, hF⟩
  rw [unhide HVl]
  rw [unhide HNe] at hR
  have HR := hide hR
  have HV := hide ((unhide HV).fr hF (by have := (unhide HO).c; simp; omega))
  have HF := hide ((unhide HF).trans hF)
  clear hR hF hb
  clear HNe
  go_wp2_with fail
  have hop := rop_any (unhide HR)
  unfold OpP at hop
  refine hop.mono ?_
  clear hop
  rintro _ w1 ⟨y', k1', e1', rfl, hd', hR, hF⟩
  obtain ⟨q1, q2, q3⟩ := Rd.det (unhide HD) hd'
  subst q1
  subst q2
  obtain rfl := q3 rfl
  have HR := hide hR
  have HV := hide ((unhide HV).fr hF (by have := (unhide HO).c; simp; omega))
  have HF := hide ((unhide HF).trans hF)
  have HV1 := HV
  clear hR hF hd'
  rw [if_pos rfl]
  go_wp2_with fail
  have hb := below1 w1 (.cells #[.int .i64 y, .int .u8 0, .int .u32 0, .int .u32 0, .int .u64 0, .slice none 0 0, .slice none 0 0, .slice none 0 0, .bool false] 73)
  have hs := (unhide HF).size
  have HR := hide ((unhide HR).bel hb)
  have HF := hide ((unhide HF).bel hb)
  have HV := hide ((unhide HV).fr (Fr.of hb []) (by simp))
  have HN := hide (nr_1 w1 hs y)
  have HNi := hide (show W.heap.size < w1.heap.size from by have := (unhide HV1).lt; omega)
  generalize w1.alloc (.cells #[.int .i64 y, .int .u8 0, .int .u32 0, .int .u32 0, .int .u64 0, .slice none 0 0, .slice none 0 0, .slice none 0 0, .bool false] 73) = w2 at *
  generalize w1.heap.size = ib at *
  clear hb hs
  refine ((unhide (unhide HIm)) _).mono ?_
  rintro _ w3 ⟨rfl, hb⟩
  have HR := hide ((unhide HR).bel hb)
  have HF := hide ((unhide HF).bel hb)
  have HV := hide ((unhide HV).fr (Fr.of hb []) (by simp))
  have HN := hide ((unhide HN).fr (Fr.of hb []) (by simp))
  clear hb HIm
  have h0 := (unhide HR).rdr.1
  go_wp2_with fail
  clear h0
  have HX := hide (rFixed4_any (unhide HR).cur)
  have HD1 : Hid (Rd (rL 4) xs k1 0 (lift (rL 4) 0 xs k1 0).1 (lift (rL 4) 0 xs k1 0).2.1 (lift (rL 4) 0 xs k1 0).2.2) := hide Rd.lift
  generalize lift (rL 4) 0 xs k1 0 = L at *
  obtain ⟨y1, kk1, ee1⟩ := L
  dsimp only at *
  refine (unhide HX).mono ?_
  rintro _ v1 ⟨rfl, hC, hF⟩
  have HR := hide ((unhide HR).step hF hC)
  have HF := hide ((unhide HF).trans hF)
  have HN := hide ((unhide HN).fr hF (by have := (unhide HO).c; have := (unhide HN).new; simp; omega))
  have HV := hide ((unhide HV).fr hF (by have := (unhide HO).c; simp; omega))
  clear hC hF HX
  have t0 := (unhide HN).tab 0 _ rfl
  have z0 := (unhide HV).tab 0 _ rfl
  have fz0 := ((unhide HV).room 0 (by decide)).2
  have t1 := (unhide HN).tab 1 _ rfl
  have z1 := (unhide HV).tab 1 _ rfl
  have fz1 := ((unhide HV).room 1 (by decide)).2
  have t2 := (unhide HN).tab 2 _ rfl
  have z2 := (unhide HV).tab 2 _ rfl
  have fz2 := ((unhide HV).room 2 (by decide)).2
  have t3 := (unhide HN).tab 3 _ rfl
  have z3 := (unhide HV).tab 3 _ rfl
  have fz3 := ((unhide HV).room 3 (by decide)).2
  have t4 := (unhide HN).tab 4 _ rfl
  have z4 := (unhide HV).tab 4 _ rfl
  have fz4 := ((unhide HV).room 4 (by decide)).2
  have t5 := (unhide HN).tab 5 _ rfl
  have z5 := (unhide HV).tab 5 _ rfl
  have fz5 := ((unhide HV).room 5 (by decide)).2
  have t6 := (unhide HN).tab 6 _ rfl
  have z6 := (unhide HV).tab 6 _ rfl
  have fz6 := ((unhide HV).room 6 (by decide)).2
  have t7 := (unhide HN).tab 7 _ rfl
  have z7 := (unhide HV).tab 7 _ rfl
  have fz7 := ((unhide HV).room 7 (by decide)).2
  have t8 := (unhide HN).tab 8 _ rfl
  have z8 := (unhide HV).tab 8 _ rfl
  have fz8 := ((unhide HV).room 8 (by decide)).2
  have pf := ((unhide HN).room 4 (by decide)).2
  have ne1 : ¬ ib = W.heap.size := by have := unhide HNi; omega
  have ne2 : ¬ W.heap.size = ib := by have := unhide HNi; omega
  (try dsimp only [hd0] at t0 t1 t2 t3 t4 t8)
  (try dsimp only [hd0] at z0 z1 z2 z3 z4 z8)
  go_wp2_with fail
  have fA : Fr [ib] v1 (v1.setCell ⟨ib, 4, none⟩ (.int .u64 y1)) := (Fr.refl _ _).place _ _
  have HR := hide ((unhide HR).fr fA (unhide HO) (by have := (unhide HN).new; simp; omega))
  have HF := hide ((unhide HF).set 4 (Or.inr (unhide HN).new) (.int .u64 y1))
  have HN : Hid (Nv W.heap.size ib (hcells ⟨y, 0, 0, 0, y1, [], false⟩ (.slice none 0 0) (.slice none 0 0) (.slice none 0 0)) _) := hide ((unhide HN).set 4 (.int .u64 y1))
  have HV := hide ((unhide HV).fr fA (by have := unhide HNi; simp; omega))
  clear fA
  refine bodyPost_ret (v := .agg #[.int .i64 y, .int .u8 0, .int .u32 0, .int .u32 0, .int .u64 y1, .slice none 0 0, .slice none 0 0, .slice none 0 0, .bool false]) (by simp [results, Tryd.results39, go_sem, z0, z1, z2, z3, z4, z5, z6, z7, z8]) rfl ?_
  have fZ := fun w => fr_set9 w W.heap.size (.int .i64 y) (.int .u8 0) (.int .u32 0) (.int .u32 0) (.int .u64 y1) (.slice none 0 0) (.slice none 0 0) (.slice none 0 0) (.bool false)
  refine ⟨⟨y, 0, 0, 0, y1, [], false⟩, none, 0, 0, none, 0, 0, none, 0, 0, y, k1, 0, (⟨y, 0, 0, 0, y1, [], false⟩, .nil, .nil), _, _, rfl, unhide HOp, fun _ => unhide HY5, ?_, fun _ => ⟨rfl, slc_nil _ _, fov_nil _ _, fov_nil _ _⟩, (unhide HR).fr (fZ _) (unhide HO) (by simp), (unhide HF).thenL (fZ _) (by simp)⟩
  rw [show rRest (sq sat) deep y = bd inz (rL 4) fun x => giv ({ hd0 y with bits := x }, .nil, .nil) by unfold rRest rPlain; rw [unhide HV0]; rfl]
  exact (unhide HD1).bd (Rd.giv _ _ _ _)
set_option maxHeartbeats 8000000 in
set_option maxRecDepth 100000 in
theorem rins_11 {n : Nat} {may : Bool} {b y v : Int} {k1 : Nat} {c rb : Nat} {a : Option Addr} {len cap : Nat} {xs : List Int} {sat : Bool} {deep k : Nat} {W : World} (HI : Hid (QSeq c rb a len cap xs sat n)) (h : Rq c rb a len cap xs sat k 0 W) (hv : nxV xs k 0 = b) (hk : k < xs.length) (hd : Rd (rOpN sat) xs k 0 y k1 0) (ho : Rd (rOp sat may deep) xs k 0 y k1 0) (hy : 0 ≤ y) (hy5 : ¬ (y = 5 ∨ y = 11)) (him : Ct 58 #[.int .i64 y] (.int .i64 v)) (hi : imI y = 11) (hvv : v = 11) (h2 : decide (2 ≤ b) = true) (h4 : decide (b ≤ 4) = false)  : RInstrP c rb a len cap xs sat may deep k 0 W := by
  have HR := hide h
  have HO : Hid (Old W.heap.size c rb a len) := hide (h.old (Nat.le_refl W.heap.size))
  have HVl := hide hv
  have HNe : Hid (nxE xs k 0 = 0) := hide (by unfold nxE; rw [if_neg (by omega)])
  have HD := hide hd
  have HOp := hide ho
  have HY5 := hide hy5
  have HIm := hide him
  have hneg : ¬ y < 0 := by omega
  subst hvv
  have HV0 := hide hi
  have _ := HI
  clear hi
  clear h hv hk hd ho hy hy5 him
  unfold RInstrP
  go_enter Tryd.func39, Tryd.ntmps39
  go_wp2_with fail
  have hb := below1 W (.cells #[.int .i64 0, .int .u8 0, .int .u32 0, .int .u32 0, .int .u64 0, .slice none 0 0, .slice none 0 0, .slice none 0 0, .bool false] 73)
  have HR := hide ((unhide HR).bel hb)
  have HF := hide (Fr.of hb [c])
  have HV := hide (nr_0 W)
  generalize W.alloc (.cells #[.int .i64 0, .int .u8 0, .int .u32 0, .int .u32 0, .int .u64 0, .slice none 0 0, .slice none 0 0, .slice none 0 0, .bool false] 73) = wr at *
  refine (rnext_any (unhide HR)).mono ?_
  rintro _ w0 ⟨rfl, hR, hF⟩
  rw [unhide HVl]
  rw [unhide HNe] at hR
  have HR := hide hR
  have HV := hide ((unhide HV).fr hF (by have := (unhide HO).c; simp; omega))
  have HF := hide ((unhide HF).trans hF)
  clear hR hF hb
  clear HNe
  go_wp2_with fail
  have hop := rop_any (unhide HR)
  unfold OpP at hop
  refine hop.mono ?_
  clear hop
  rintro _ w1 ⟨y', k1', e1', rfl, hd', hR, hF⟩
  obtain ⟨q1, q2, q3⟩ := Rd.det (unhide HD) hd'
  subst q1
  subst q2
  obtain rfl := q3 rfl
  have HR := hide hR
  have HV := hide ((unhide HV).fr hF (by have := (unhide HO).c; simp; omega))
  have HF := hide ((unhide HF).trans hF)
  have HV1 := HV
  clear hR hF hd'
  rw [if_pos rfl]
  go_wp2_with fail
  have hb := below1 w1 (.cells #[.int .i64 y, .int .u8 0, .int .u32 0, .int .u32 0, .int .u64 0, .slice none 0 0, .slice none 0 0, .slice none 0 0, .bool false] 73)
  have hs := (unhide HF).size
  have HR := hide ((unhide HR).bel hb)
  have HF := hide ((unhide HF).bel hb)
  have HV := hide ((unhide HV).fr (Fr.of hb []) (by simp))
  have HN := hide (nr_1 w1 hs y)
  have HNi := hide (show W.heap.size < w1.heap.size from by have := (unhide HV1).lt; omega)
  generalize w1.alloc (.cells #[.int .i64 y, .int .u8 0, .int .u32 0, .int .u32 0, .int .u64 0, .slice none 0 0, .slice none 0 0, .slice none 0 0, .bool false] 73) = w2 at *
  generalize w1.heap.size = ib at *
  clear hb hs
  refine ((unhide (unhide HIm)) _).mono ?_
  rintro _ w3 ⟨rfl, hb⟩
  have HR := hide ((unhide HR).bel hb)
  have HF := hide ((unhide HF).bel hb)
  have HV := hide ((unhide HV).fr (Fr.of hb []) (by simp))
  have HN := hide ((unhide HN).fr (Fr.of hb []) (by simp))
  clear hb HIm
  have h0 := (unhide HR).rdr.1
  go_wp2_with fail
  clear h0
  have HX := hide (rFixed8_any (unhide HR).cur)
  have HD1 : Hid (Rd (rL 8) xs k1 0 (lift (rL 8) 0 xs k1 0).1 (lift (rL 8) 0 xs k1 0).2.1 (lift (rL 8) 0 xs k1 0).2.2) := hide Rd.lift
  generalize lift (rL 8) 0 xs k1 0 = L at *
  obtain ⟨y1, kk1, ee1⟩ := L
  dsimp only at *
  refine (unhide HX).mono ?_
  rintro _ v1 ⟨rfl, hC, hF⟩
  have HR := hide ((unhide HR).step hF hC)
  have HF := hide ((unhide HF).trans hF)
  have HN := hide ((unhide HN).fr hF (by have := (unhide HO).c; have := (unhide HN).new; simp; omega))
  have HV := hide ((unhide HV).fr hF (by have := (unhide HO).c; simp; omega))
  clear hC hF HX
  have t0 := (unhide HN).tab 0 _ rfl
  have z0 := (unhide HV).tab 0 _ rfl
  have fz0 := ((unhide HV).room 0 (by decide)).2
  have t1 := (unhide HN).tab 1 _ rfl
  have z1 := (unhide HV).tab 1 _ rfl
  have fz1 := ((unhide HV).room 1 (by decide)).2
  have t2 := (unhide HN).tab 2 _ rfl
  have z2 := (unhide HV).tab 2 _ rfl
  have fz2 := ((unhide HV).room 2 (by decide)).2
  have t3 := (unhide HN).tab 3 _ rfl
  have z3 := (unhide HV).tab 3 _ rfl
  have fz3 := ((unhide HV).room 3 (by decide)).2
  have t4 := (unhide HN).tab 4 _ rfl
  have z4 := (unhide HV).tab 4 _ rfl
  have fz4 := ((unhide HV).room 4 (by decide)).2
  have t5 := (unhide HN).tab 5 _ rfl
  have z5 := (unhide HV).tab 5 _ rfl
  have fz5 := ((unhide HV).room 5 (by decide)).2
  have t6 := (unhide HN).tab 6 _ rfl
  have z6 := (unhide HV).tab 6 _ rfl
  have fz6 := ((unhide HV).room 6 (by decide)).2
  have t7 := (unhide HN).tab 7 _ rfl
  have z7 := (unhide HV).tab 7 _ rfl
  have fz7 := ((unhide HV).room 7 (by decide)).2
  have t8 := (unhide HN).tab 8 _ rfl
  have z8 := (unhide HV).tab 8 _ rfl
  have fz8 := ((unhide HV).room 8 (by decide)).2
  have pf := ((unhide HN).room 4 (by decide)).2
  have ne1 : ¬ ib = W.heap.size := by have := unhide HNi; omega
  have ne2 : ¬ W.heap.size = ib := by have := unhide HNi; omega
  (try dsimp only [hd0] at t0 t1 t2 t3 t4 t8)
  (try dsimp only [hd0] at z0 z1 z2 z3 z4 z8)
  go_wp2_with fail
  have fA : Fr [ib] v1 (v1.setCell ⟨ib, 4, none⟩ (.int .u64 y1)) := (Fr.refl _ _).place _ _
  have HR := hide ((unhide HR).fr fA (unhide HO) (by have := (unhide HN).new; simp; omega))
  have HF := hide ((unhide HF).set 4 (Or.inr (unhide HN).new) (.int .u64 y1))
  have HN : Hid (Nv W.heap.size ib (hcells ⟨y, 0, 0, 0, y1, [], false⟩ (.slice none 0 0) (.slice none 0 0) (.slice none 0 0)) _) := hide ((unhide HN).set 4 (.int .u64 y1))
  have HV := hide ((unhide HV).fr fA (by have := unhide HNi; simp; omega))
  clear fA
  refine bodyPost_ret (v := .agg #[.int .i64 y, .int .u8 0, .int .u32 0, .int .u32 0, .int .u64 y1, .slice none 0 0, .slice none 0 0, .slice none 0 0, .bool false]) (by simp [results, Tryd.results39, go_sem, z0, z1, z2, z3, z4, z5, z6, z7, z8]) rfl ?_
  have fZ := fun w => fr_set9 w W.heap.size (.int .i64 y) (.int .u8 0) (.int .u32 0) (.int .u32 0) (.int .u64 y1) (.slice none 0 0) (.slice none 0 0) (.slice none 0 0) (.bool false)
  refine ⟨⟨y, 0, 0, 0, y1, [], false⟩, none, 0, 0, none, 0, 0, none, 0, 0, y, k1, 0, (⟨y, 0, 0, 0, y1, [], false⟩, .nil, .nil), _, _, rfl, unhide HOp, fun _ => unhide HY5, ?_, fun _ => ⟨rfl, slc_nil _ _, fov_nil _ _, fov_nil _ _⟩, (unhide HR).fr (fZ _) (unhide HO) (by simp), (unhide HF).thenL (fZ _) (by simp)⟩
  rw [show rRest (sq sat) deep y = bd inz (rL 8) fun x => giv ({ hd0 y with bits := x }, .nil, .nil) by unfold rRest rPlain; rw [unhide HV0]; rfl]
  exact (unhide HD1).bd (Rd.giv _ _ _ _)
end Go.Proofs.YtalahdkgigcpfaaDoor
