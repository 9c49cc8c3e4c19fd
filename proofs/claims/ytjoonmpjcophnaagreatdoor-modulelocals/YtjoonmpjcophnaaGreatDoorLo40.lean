/- CdG, CdI, CdN, CdJ. -/
import Derived.Test.YtjoonmpjcophnaaGreatDoorLo37
import Derived.Test.YtjoonmpjcophnaaGreatDoorLo38
namespace Go.Proofs.YtjoonmpjcophnaaGreatDoor
open Go.RowKit

set_option maxHeartbeats 8000000 in
set_option maxRecDepth 100000 in
theorem instr_6 {n : Nat} {op : Int} {c rb : Nat} {a : Option Addr} {len cap : Nat} {xs : List Int} {sat : Bool} {deep k : Nat} {e : Int} {W : World} (HI : Hid (PSeq c rb a len cap xs sat n)) (h : Rs c rb a len cap xs sat deep k e W) (hk : e = 0 → len - k < n) (hb : imI op = 1 → deep < 64) (ho : op ≤ 9223372036854775807) (hv : imI op = 6) : InstrP c rb a len cap xs sat deep k e op W := by
  have HR := hide h
  have HO : Hid (Old W.heap.size c rb a len) := hide (h.old (Nat.le_refl W.heap.size))
  have HIm := hide (imm_any op ho)
  rw [hv] at HIm
  have _ := HI
  have _ := hk
  have _ := hb
  have HV0 := hide hv
  clear h hk hb hv
  unfold InstrP
  go_enter Tryz.func167, Tryz.ntmps167
  go_wp2_with fail
  have hb := below2 W (.cells #[.int .i64 0, .int .u8 0, .int .u32 0, .int .u32 0, .int .u64 0, .slice none 0 0, .slice none 0 0, .slice none 0 0, .bool false] 160) (.cells #[.int .i64 op, .int .u8 0, .int .u32 0, .int .u32 0, .int .u64 0, .slice none 0 0, .slice none 0 0, .slice none 0 0, .bool false] 160)
  have HR := hide ((unhide HR).bel hb)
  have HF := hide (Fr.of hb [c, rb])
  have HN := hide (nv_1 (W := W) op)
  have HV := hide (nv_0 (W := W) (.cells #[.int .i64 op, .int .u8 0, .int .u32 0, .int .u32 0, .int .u64 0, .slice none 0 0, .slice none 0 0, .slice none 0 0, .bool false] 160))
  generalize (W.alloc (.cells #[.int .i64 0, .int .u8 0, .int .u32 0, .int .u32 0, .int .u64 0, .slice none 0 0, .slice none 0 0, .slice none 0 0, .bool false] 160)).alloc (.cells #[.int .i64 op, .int .u8 0, .int .u32 0, .int .u32 0, .int .u64 0, .slice none 0 0, .slice none 0 0, .slice none 0 0, .bool false] 160) = wr at *
  refine ((unhide HIm) _ (unhide HR).var).mono ?_
  rintro _ w0 ⟨rfl, hb1⟩
  have HR := hide ((unhide HR).bel hb1)
  have HF := hide ((unhide HF).bel hb1)
  have HN := hide ((unhide HN).fr (Fr.of hb1 []) (by simp))
  have HV := hide ((unhide HV).fr (Fr.of hb1 []) (by simp))
  clear hb hb1 HIm
  have h0 := (unhide HR).rdr.1
  go_wp2_with fail
  clear h0
  have HX := hide (u32_any (unhide HR).cur)
  have HD1 : Hid (Rd (rU 32) xs k e (lift (rU 32) 0 xs k e).1 (lift (rU 32) 0 xs k e).2.1 (lift (rU 32) 0 xs k e).2.2) := hide Rd.lift
  generalize lift (rU 32) 0 xs k e = L at *
  obtain ⟨y1, k1, e1⟩ := L
  dsimp only at *
  refine (unhide HX).mono ?_
  rintro _ w1 ⟨rfl, hC, hF⟩
  have HR := hide ((unhide HR).step hF hC)
  have HF := hide ((unhide HF).trans (fr_c hF))
  have HN := hide ((unhide HN).fr hF (by have := (unhide HO).c; simp; omega))
  have HV := hide ((unhide HV).fr hF (by have := (unhide HO).c; simp; omega))
  clear hC hF HX
  have h0 := (unhide HR).rdr.1
  obtain ⟨⟨u, g⟩, f⟩ := (unhide HN).room 2 (by decide)
  go_wp2_with fail
  clear f g u
  clear h0
  have fA : Fr [W.heap.size + 1] w1 (w1.setCell ⟨W.heap.size + 1, 2, none⟩ (.int .u32 y1)) := (Fr.refl _ _).place _ _
  have HR := hide ((unhide HR).fr fA (unhide HO) (by simp))
  have HF := hide ((unhide HF).set 2 (Or.inr (by omega) : W.heap.size + 1 ∈ [c, rb] ∨ W.heap.size ≤ W.heap.size + 1) (.int .u32 y1))
  have HN : Hid (Nv W.heap.size (W.heap.size + 1) (hcells ⟨op, 0, y1, 0, 0, [], false⟩ (.slice none 0 0) (.slice none 0 0) (.slice none 0 0)) _) := hide ((unhide HN).set 2 (.int .u32 y1))
  have HV := hide ((unhide HV).fr fA (by simp))
  clear fA
  generalize w1.setCell ⟨W.heap.size + 1, 2, none⟩ (.int .u32 y1) = w1s at *
  have HX := hide (u32_any (unhide HR).cur)
  have HD2 : Hid (Rd (rU 32) xs k1 e1 (lift (rU 32) 0 xs k1 e1).1 (lift (rU 32) 0 xs k1 e1).2.1 (lift (rU 32) 0 xs k1 e1).2.2) := hide Rd.lift
  generalize lift (rU 32) 0 xs k1 e1 = L at *
  obtain ⟨y2, k2, e2⟩ := L
  dsimp only at *
  refine (unhide HX).mono ?_
  rintro _ w2 ⟨rfl, hC, hF⟩
  have HR := hide ((unhide HR).step hF hC)
  have HF := hide ((unhide HF).trans (fr_c hF))
  have HN := hide ((unhide HN).fr hF (by have := (unhide HO).c; simp; omega))
  have HV := hide ((unhide HV).fr hF (by have := (unhide HO).c; simp; omega))
  clear hC hF HX
  have t0 := (unhide HN).tab 0 _ rfl
  have z0 := (unhide HV).tab 0 _ rfl
  have fz0 := ((unhide HV).room 0 (by decide)).2
  have t1 := (unhide HN).tab 1 _ rfl
  have z1 := (unhide HV).tab 1 _ rfl
  have fz1 := ((unhide HV).room 1 (by decide)).2
  have t2 := (unhide HN).tab 2 _ rfl
  have z2 := (unhide HV).tab 2 _ rfl
  have fz2 := ((unhide HV).room 2 (by decide)).2
  have t3 := (unhide HN).tab 3 _ rfl
  have z3 := (unhide HV).tab 3 _ rfl
  have fz3 := ((unhide HV).room 3 (by decide)).2
  have t4 := (unhide HN).tab 4 _ rfl
  have z4 := (unhide HV).tab 4 _ rfl
  have fz4 := ((unhide HV).room 4 (by decide)).2
  have t5 := (unhide HN).tab 5 _ rfl
  have z5 := (unhide HV).tab 5 _ rfl
  have fz5 := ((unhide HV).room 5 (by decide)).2
  have t6 := (unhide HN).tab 6 _ rfl
  have z6 := (unhide HV).tab 6 _ rfl
  have fz6 := ((unhide HV).room 6 (by decide)).2
  have t7 := (unhide HN).tab 7 _ rfl
  have z7 := (unhide HV).tab 7 _ rfl
  have fz7 := ((unhide HV).room 7 (by decide)).2
  have t8 := (unhide HN).tab 8 _ rfl
  have z8 := (unhide HV).tab 8 _ rfl
  have fz8 := ((unhide HV).room 8 (by decide)).2
  have pf := ((unhide HN).room 3 (by decide)).2
  (try dsimp only [hd0] at t0 t1 t2 t3 t4 t8)
  go_wp2_with fail
  have fA : Fr [W.heap.size + 1] w2 (w2.setCell ⟨W.heap.size + 1, 3, none⟩ (.int .u32 y2)) := (Fr.refl _ _).place _ _
  have HR := hide ((unhide HR).fr fA (unhide HO) (by simp))
  have HF := hide ((unhide HF).set 3 (Or.inr (by omega) : W.heap.size + 1 ∈ [c, rb] ∨ W.heap.size ≤ W.heap.size + 1) (.int .u32 y2))
  refine bodyPost_ret (v := .agg #[.int .i64 op, .int .u8 0, .int .u32 y1, .int .u32 y2, .int .u64 0, .slice none 0 0, .slice none 0 0, .slice none 0 0, .bool false]) (by simp [results, Tryz.results167, go_sem, z0, z1, z2, z3, z4, z5, z6, z7, z8]) rfl ?_
  have fZ := fun w => fr_set9 w W.heap.size (.int .i64 op) (.int .u8 0) (.int .u32 y1) (.int .u32 y2) (.int .u64 0) (.slice none 0 0) (.slice none 0 0) (.slice none 0 0) (.bool false)
  refine ⟨⟨op, 0, y1, y2, 0, [], false⟩, _, _, _, none, 0, 0, none, 0, 0, (⟨op, 0, y1, y2, 0, [], false⟩, .nil, .nil), _, _, rfl, ?_, fun _ => ⟨rfl, slc_nil _ _, fov_nil _ _, fov_nil _ _⟩, (unhide HR).fr (fZ _) (unhide HO) (by simp), (unhide HF).thenL (fZ _) (by simp)⟩
  rw [show rRest (sq sat) deep op = bd inz (rU 32) fun a => bd inz (rU 32) fun b => giv ({ hd0 op with a := a, b := b }, .nil, .nil) by unfold rRest rPlain; rw [unhide HV0]; rfl]
  exact (unhide HD1).bd ((unhide HD2).bd (Rd.giv _ _ _ _))
set_option maxHeartbeats 8000000 in
set_option maxRecDepth 100000 in
theorem instr_7 {n : Nat} {op : Int} {c rb : Nat} {a : Option Addr} {len cap : Nat} {xs : List Int} {sat : Bool} {deep k : Nat} {e : Int} {W : World} (HI : Hid (PSeq c rb a len cap xs sat n)) (h : Rs c rb a len cap xs sat deep k e W) (hk : e = 0 → len - k < n) (hb : imI op = 1 → deep < 64) (ho : op ≤ 9223372036854775807) (hv : imI op = 7) : InstrP c rb a len cap xs sat deep k e op W := by
  have HR := hide h
  have HO : Hid (Old W.heap.size c rb a len) := hide (h.old (Nat.le_refl W.heap.size))
  have HIm := hide (imm_any op ho)
  rw [hv] at HIm
  have _ := HI
  have _ := hk
  have _ := hb
  have HV0 := hide hv
  clear h hk hb hv
  unfold InstrP
  go_enter Tryz.func167, Tryz.ntmps167
  go_wp2_with fail
  have hb := below2 W (.cells #[.int .i64 0, .int .u8 0, .int .u32 0, .int .u32 0, .int .u64 0, .slice none 0 0, .slice none 0 0, .slice none 0 0, .bool false] 160) (.cells #[.int .i64 op, .int .u8 0, .int .u32 0, .int .u32 0, .int .u64 0, .slice none 0 0, .slice none 0 0, .slice none 0 0, .bool false] 160)
  have HR := hide ((unhide HR).bel hb)
  have HF := hide (Fr.of hb [c, rb])
  have HN := hide (nv_1 (W := W) op)
  have HV := hide (nv_0 (W := W) (.cells #[.int .i64 op, .int .u8 0, .int .u32 0, .int .u32 0, .int .u64 0, .slice none 0 0, .slice none 0 0, .slice none 0 0, .bool false] 160))
  generalize (W.alloc (.cells #[.int .i64 0, .int .u8 0, .int .u32 0, .int .u32 0, .int .u64 0, .slice none 0 0, .slice none 0 0, .slice none 0 0, .bool false] 160)).alloc (.cells #[.int .i64 op, .int .u8 0, .int .u32 0, .int .u32 0, .int .u64 0, .slice none 0 0, .slice none 0 0, .slice none 0 0, .bool false] 160) = wr at *
  refine ((unhide HIm) _ (unhide HR).var).mono ?_
  rintro _ w0 ⟨rfl, hb1⟩
  have HR := hide ((unhide HR).bel hb1)
  have HF := hide ((unhide HF).bel hb1)
  have HN := hide ((unhide HN).fr (Fr.of hb1 []) (by simp))
  have HV := hide ((unhide HV).fr (Fr.of hb1 []) (by simp))
  clear hb hb1 HIm
  have h0 := (unhide HR).rdr.1
  go_wp2_with fail
  clear h0
  refine (nought_any (unhide HR)).mono ?_
  rintro _ w1 ⟨k1, e1, rfl, hd, hR, hF⟩
  have HD1 := hide hd
  have HR := hide hR
  have HF := hide ((unhide HF).trans (fr_c hF))
  have HN := hide ((unhide HN).fr hF (by have := (unhide HO).c; simp; omega))
  have HV := hide ((unhide HV).fr hF (by have := (unhide HO).c; simp; omega))
  clear hd hR hF
  have t0 := (unhide HN).tab 0 _ rfl
  have z0 := (unhide HV).tab 0 _ rfl
  have fz0 := ((unhide HV).room 0 (by decide)).2
  have t1 := (unhide HN).tab 1 _ rfl
  have z1 := (unhide HV).tab 1 _ rfl
  have fz1 := ((unhide HV).room 1 (by decide)).2
  have t2 := (unhide HN).tab 2 _ rfl
  have z2 := (unhide HV).tab 2 _ rfl
  have fz2 := ((unhide HV).room 2 (by decide)).2
  have t3 := (unhide HN).tab 3 _ rfl
  have z3 := (unhide HV).tab 3 _ rfl
  have fz3 := ((unhide HV).room 3 (by decide)).2
  have t4 := (unhide HN).tab 4 _ rfl
  have z4 := (unhide HV).tab 4 _ rfl
  have fz4 := ((unhide HV).room 4 (by decide)).2
  have t5 := (unhide HN).tab 5 _ rfl
  have z5 := (unhide HV).tab 5 _ rfl
  have fz5 := ((unhide HV).room 5 (by decide)).2
  have t6 := (unhide HN).tab 6 _ rfl
  have z6 := (unhide HV).tab 6 _ rfl
  have fz6 := ((unhide HV).room 6 (by decide)).2
  have t7 := (unhide HN).tab 7 _ rfl
  have z7 := (unhide HV).tab 7 _ rfl
  have fz7 := ((unhide HV).room 7 (by decide)).2
  have t8 := (unhide HN).tab 8 _ rfl
  have z8 := (unhide HV).tab 8 _ rfl
  have fz8 := ((unhide HV).room 8 (by decide)).2
  dsimp only [hd0] at t0 t1 t2 t3 t4 t8
  go_wp2_with fail
  refine bodyPost_ret (v := .agg #[.int .i64 op, .int .u8 0, .int .u32 0, .int .u32 0, .int .u64 0, .slice none 0 0, .slice none 0 0, .slice none 0 0, .bool false]) (by simp [results, Tryz.results167, go_sem, z0, z1, z2, z3, z4, z5, z6, z7, z8]) rfl ?_
  have fZ := fun w => fr_set9 w W.heap.size (.int .i64 op) (.int .u8 0) (.int .u32 0) (.int .u32 0) (.int .u64 0) (.slice none 0 0) (.slice none 0 0) (.slice none 0 0) (.bool false)
  refine ⟨⟨op, 0, 0, 0, 0, [], false⟩, _, _, _, none, 0, 0, none, 0, 0, (⟨op, 0, 0, 0, 0, [], false⟩, .nil, .nil), _, _, rfl, ?_, fun _ => ⟨rfl, slc_nil _ _, fov_nil _ _, fov_nil _ _⟩, (unhide HR).fr (fZ _) (unhide HO) (by simp), (unhide HF).thenL (fZ _) (by simp)⟩
  rw [show rRest (sq sat) deep op = bd inz r0 fun _ => giv (hd0 op, .nil, .nil) by unfold rRest rPlain; rw [unhide HV0]; rfl]
  exact (unhide HD1).bd (Rd.giv _ _ _ _)
set_option maxHeartbeats 8000000 in
set_option maxRecDepth 100000 in
theorem instr_8 {n : Nat} {op : Int} {c rb : Nat} {a : Option Addr} {len cap : Nat} {xs : List Int} {sat : Bool} {deep k : Nat} {e : Int} {W : World} (HI : Hid (PSeq c rb a len cap xs sat n)) (h : Rs c rb a len cap xs sat deep k e W) (hk : e = 0 → len - k < n) (hb : imI op = 1 → deep < 64) (ho : op ≤ 9223372036854775807) (hv : imI op = 8) : InstrP c rb a len cap xs sat deep k e op W := by
  have HR := hide h
  have HO : Hid (Old W.heap.size c rb a len) := hide (h.old (Nat.le_refl W.heap.size))
  have HIm := hide (imm_any op ho)
  rw [hv] at HIm
  have _ := HI
  have _ := hk
  have _ := hb
  have HV0 := hide hv
  clear h hk hb hv
  unfold InstrP
  go_enter Tryz.func167, Tryz.ntmps167
  go_wp2_with fail
  have hb := below2 W (.cells #[.int .i64 0, .int .u8 0, .int .u32 0, .int .u32 0, .int .u64 0, .slice none 0 0, .slice none 0 0, .slice none 0 0, .bool false] 160) (.cells #[.int .i64 op, .int .u8 0, .int .u32 0, .int .u32 0, .int .u64 0, .slice none 0 0, .slice none 0 0, .slice none 0 0, .bool false] 160)
  have HR := hide ((unhide HR).bel hb)
  have HF := hide (Fr.of hb [c, rb])
  have HN := hide (nv_1 (W := W) op)
  have HV := hide (nv_0 (W := W) (.cells #[.int .i64 op, .int .u8 0, .int .u32 0, .int .u32 0, .int .u64 0, .slice none 0 0, .slice none 0 0, .slice none 0 0, .bool false] 160))
  generalize (W.alloc (.cells #[.int .i64 0, .int .u8 0, .int .u32 0, .int .u32 0, .int .u64 0, .slice none 0 0, .slice none 0 0, .slice none 0 0, .bool false] 160)).alloc (.cells #[.int .i64 op, .int .u8 0, .int .u32 0, .int .u32 0, .int .u64 0, .slice none 0 0, .slice none 0 0, .slice none 0 0, .bool false] 160) = wr at *
  refine ((unhide HIm) _ (unhide HR).var).mono ?_
  rintro _ w0 ⟨rfl, hb1⟩
  have HR := hide ((unhide HR).bel hb1)
  have HF := hide ((unhide HF).bel hb1)
  have HN := hide ((unhide HN).fr (Fr.of hb1 []) (by simp))
  have HV := hide ((unhide HV).fr (Fr.of hb1 []) (by simp))
  clear hb hb1 HIm
  have h0 := (unhide HR).rdr.1
  go_wp2_with fail
  clear h0
  obtain ⟨y1, k1, e1, hd, hs, hx⟩ := s32b (unhide HR).cur
  have HX := hide hx
  have HD1 := hide hd
  have i64w : IntKind.u64.wrap y1 = y1 := u64_id (by omega) (by omega)
  clear hx hd
  refine (unhide HX).mono ?_
  rintro _ w1 ⟨rfl, hC, hF⟩
  have HR := hide ((unhide HR).step hF hC)
  have HF := hide ((unhide HF).trans (fr_c hF))
  have HN := hide ((unhide HN).fr hF (by have := (unhide HO).c; simp; omega))
  have HV := hide ((unhide HV).fr hF (by have := (unhide HO).c; simp; omega))
  clear hC hF HX
  have t0 := (unhide HN).tab 0 _ rfl
  have z0 := (unhide HV).tab 0 _ rfl
  have fz0 := ((unhide HV).room 0 (by decide)).2
  have t1 := (unhide HN).tab 1 _ rfl
  have z1 := (unhide HV).tab 1 _ rfl
  have fz1 := ((unhide HV).room 1 (by decide)).2
  have t2 := (unhide HN).tab 2 _ rfl
  have z2 := (unhide HV).tab 2 _ rfl
  have fz2 := ((unhide HV).room 2 (by decide)).2
  have t3 := (unhide HN).tab 3 _ rfl
  have z3 := (unhide HV).tab 3 _ rfl
  have fz3 := ((unhide HV).room 3 (by decide)).2
  have t4 := (unhide HN).tab 4 _ rfl
  have z4 := (unhide HV).tab 4 _ rfl
  have fz4 := ((unhide HV).room 4 (by decide)).2
  have t5 := (unhide HN).tab 5 _ rfl
  have z5 := (unhide HV).tab 5 _ rfl
  have fz5 := ((unhide HV).room 5 (by decide)).2
  have t6 := (unhide HN).tab 6 _ rfl
  have z6 := (unhide HV).tab 6 _ rfl
  have fz6 := ((unhide HV).room 6 (by decide)).2
  have t7 := (unhide HN).tab 7 _ rfl
  have z7 := (unhide HV).tab 7 _ rfl
  have fz7 := ((unhide HV).room 7 (by decide)).2
  have t8 := (unhide HN).tab 8 _ rfl
  have z8 := (unhide HV).tab 8 _ rfl
  have fz8 := ((unhide HV).room 8 (by decide)).2
  have pf := ((unhide HN).room 4 (by decide)).2
  dsimp only [hd0] at t0 t1 t2 t3 t4 t8
  go_wp2_with fail
  have fA : Fr [W.heap.size + 1] w1 (w1.setCell ⟨W.heap.size + 1, 4, none⟩ (.int .u64 y1)) := (Fr.refl _ _).place _ _
  have HR := hide ((unhide HR).fr fA (unhide HO) (by simp))
  have HF := hide ((unhide HF).set 4 (Or.inr (by omega) : W.heap.size + 1 ∈ [c, rb] ∨ W.heap.size ≤ W.heap.size + 1) (.int .u64 y1))
  refine bodyPost_ret (v := .agg #[.int .i64 op, .int .u8 0, .int .u32 0, .int .u32 0, .int .u64 y1, .slice none 0 0, .slice none 0 0, .slice none 0 0, .bool false]) (by simp [results, Tryz.results167, go_sem, z0, z1, z2, z3, z4, z5, z6, z7, z8]) rfl ?_
  have fZ := fun w => fr_set9 w W.heap.size (.int .i64 op) (.int .u8 0) (.int .u32 0) (.int .u32 0) (.int .u64 y1) (.slice none 0 0) (.slice none 0 0) (.slice none 0 0) (.bool false)
  refine ⟨⟨op, 0, 0, 0, y1, [], false⟩, _, _, _, none, 0, 0, none, 0, 0, (⟨op, 0, 0, 0, y1, [], false⟩, .nil, .nil), _, _, rfl, ?_, fun _ => ⟨rfl, slc_nil _ _, fov_nil _ _, fov_nil _ _⟩, (unhide HR).fr (fZ _) (unhide HO) (by simp), (unhide HF).thenL (fZ _) (by simp)⟩
  rw [show rRest (sq sat) deep op = bd inz rS32 fun x => giv ({ hd0 op with bits := x }, .nil, .nil) by unfold rRest rPlain; rw [unhide HV0]; rfl]
  exact (unhide HD1).bd (Rd.giv _ _ _ _)
set_option maxHeartbeats 8000000 in
set_option maxRecDepth 100000 in
theorem instr_9 {n : Nat} {op : Int} {c rb : Nat} {a : Option Addr} {len cap : Nat} {xs : List Int} {sat : Bool} {deep k : Nat} {e : Int} {W : World} (HI : Hid (PSeq c rb a len cap xs sat n)) (h : Rs c rb a len cap xs sat deep k e W) (hk : e = 0 → len - k < n) (hb : imI op = 1 → deep < 64) (ho : op ≤ 9223372036854775807) (hv : imI op = 9) : InstrP c rb a len cap xs sat deep k e op W := by
  have HR := hide h
  have HO : Hid (Old W.heap.size c rb a len) := hide (h.old (Nat.le_refl W.heap.size))
  have HIm := hide (imm_any op ho)
  rw [hv] at HIm
  have _ := HI
  have _ := hk
  have _ := hb
  have HV0 := hide hv
  clear h hk hb hv
  unfold InstrP
  go_enter Tryz.func167, Tryz.ntmps167
  go_wp2_with fail
  have hb := below2 W (.cells #[.int .i64 0, .int .u8 0, .int .u32 0, .int .u32 0, .int .u64 0, .slice none 0 0, .slice none 0 0, .slice none 0 0, .bool false] 160) (.cells #[.int .i64 op, .int .u8 0, .int .u32 0, .int .u32 0, .int .u64 0, .slice none 0 0, .slice none 0 0, .slice none 0 0, .bool false] 160)
  have HR := hide ((unhide HR).bel hb)
  have HF := hide (Fr.of hb [c, rb])
  have HN := hide (nv_1 (W := W) op)
  have HV := hide (nv_0 (W := W) (.cells #[.int .i64 op, .int .u8 0, .int .u32 0, .int .u32 0, .int .u64 0, .slice none 0 0, .slice none 0 0, .slice none 0 0, .bool false] 160))
  generalize (W.alloc (.cells #[.int .i64 0, .int .u8 0, .int .u32 0, .int .u32 0, .int .u64 0, .slice none 0 0, .slice none 0 0, .slice none 0 0, .bool false] 160)).alloc (.cells #[.int .i64 op, .int .u8 0, .int .u32 0, .int .u32 0, .int .u64 0, .slice none 0 0, .slice none 0 0, .slice none 0 0, .bool false] 160) = wr at *
  refine ((unhide HIm) _ (unhide HR).var).mono ?_
  rintro _ w0 ⟨rfl, hb1⟩
  have HR := hide ((unhide HR).bel hb1)
  have HF := hide ((unhide HF).bel hb1)
  have HN := hide ((unhide HN).fr (Fr.of hb1 []) (by simp))
  have HV := hide ((unhide HV).fr (Fr.of hb1 []) (by simp))
  clear hb hb1 HIm
  have h0 := (unhide HR).rdr.1
  go_wp2_with fail
  clear h0
  have HX := hide (s64_any (unhide HR).cur)
  have HD1 : Hid (Rd (rS 64) xs k e (lift (rS 64) 0 xs k e).1 (lift (rS 64) 0 xs k e).2.1 (lift (rS 64) 0 xs k e).2.2) := hide Rd.lift
  generalize lift (rS 64) 0 xs k e = L at *
  obtain ⟨y1, k1, e1⟩ := L
  dsimp only at *
  refine (unhide HX).mono ?_
  rintro _ w1 ⟨rfl, hC, hF⟩
  have HR := hide ((unhide HR).step hF hC)
  have HF := hide ((unhide HF).trans (fr_c hF))
  have HN := hide ((unhide HN).fr hF (by have := (unhide HO).c; simp; omega))
  have HV := hide ((unhide HV).fr hF (by have := (unhide HO).c; simp; omega))
  clear hC hF HX
  have t0 := (unhide HN).tab 0 _ rfl
  have z0 := (unhide HV).tab 0 _ rfl
  have fz0 := ((unhide HV).room 0 (by decide)).2
  have t1 := (unhide HN).tab 1 _ rfl
  have z1 := (unhide HV).tab 1 _ rfl
  have fz1 := ((unhide HV).room 1 (by decide)).2
  have t2 := (unhide HN).tab 2 _ rfl
  have z2 := (unhide HV).tab 2 _ rfl
  have fz2 := ((unhide HV).room 2 (by decide)).2
  have t3 := (unhide HN).tab 3 _ rfl
  have z3 := (unhide HV).tab 3 _ rfl
  have fz3 := ((unhide HV).room 3 (by decide)).2
  have t4 := (unhide HN).tab 4 _ rfl
  have z4 := (unhide HV).tab 4 _ rfl
  have fz4 := ((unhide HV).room 4 (by decide)).2
  have t5 := (unhide HN).tab 5 _ rfl
  have z5 := (unhide HV).tab 5 _ rfl
  have fz5 := ((unhide HV).room 5 (by decide)).2
  have t6 := (unhide HN).tab 6 _ rfl
  have z6 := (unhide HV).tab 6 _ rfl
  have fz6 := ((unhide HV).room 6 (by decide)).2
  have t7 := (unhide HN).tab 7 _ rfl
  have z7 := (unhide HV).tab 7 _ rfl
  have fz7 := ((unhide HV).room 7 (by decide)).2
  have t8 := (unhide HN).tab 8 _ rfl
  have z8 := (unhide HV).tab 8 _ rfl
  have fz8 := ((unhide HV).room 8 (by decide)).2
  have pf := ((unhide HN).room 4 (by decide)).2
  dsimp only [hd0] at t0 t1 t2 t3 t4 t8
  go_wp2_with fail
  have fA : Fr [W.heap.size + 1] w1 (w1.setCell ⟨W.heap.size + 1, 4, none⟩ (.int .u64 y1)) := (Fr.refl _ _).place _ _
  have HR := hide ((unhide HR).fr fA (unhide HO) (by simp))
  have HF := hide ((unhide HF).set 4 (Or.inr (by omega) : W.heap.size + 1 ∈ [c, rb] ∨ W.heap.size ≤ W.heap.size + 1) (.int .u64 y1))
  refine bodyPost_ret (v := .agg #[.int .i64 op, .int .u8 0, .int .u32 0, .int .u32 0, .int .u64 y1, .slice none 0 0, .slice none 0 0, .slice none 0 0, .bool false]) (by simp [results, Tryz.results167, go_sem, z0, z1, z2, z3, z4, z5, z6, z7, z8]) rfl ?_
  have fZ := fun w => fr_set9 w W.heap.size (.int .i64 op) (.int .u8 0) (.int .u32 0) (.int .u32 0) (.int .u64 y1) (.slice none 0 0) (.slice none 0 0) (.slice none 0 0) (.bool false)
  refine ⟨⟨op, 0, 0, 0, y1, [], false⟩, _, _, _, none, 0, 0, none, 0, 0, (⟨op, 0, 0, 0, y1, [], false⟩, .nil, .nil), _, _, rfl, ?_, fun _ => ⟨rfl, slc_nil _ _, fov_nil _ _, fov_nil _ _⟩, (unhide HR).fr (fZ _) (unhide HO) (by simp), (unhide HF).thenL (fZ _) (by simp)⟩
  rw [show rRest (sq sat) deep op = bd inz (rS 64) fun x => giv ({ hd0 op with bits := x }, .nil, .nil) by unfold rRest rPlain; rw [unhide HV0]; rfl]
  exact (unhide HD1).bd (Rd.giv _ _ _ _)
set_option maxHeartbeats 8000000 in
set_option maxRecDepth 100000 in
theorem instr_10 {n : Nat} {op : Int} {c rb : Nat} {a : Option Addr} {len cap : Nat} {xs : List Int} {sat : Bool} {deep k : Nat} {e : Int} {W : World} (HI : Hid (PSeq c rb a len cap xs sat n)) (h : Rs c rb a len cap xs sat deep k e W) (hk : e = 0 → len - k < n) (hb : imI op = 1 → deep < 64) (ho : op ≤ 9223372036854775807) (hv : imI op = 10) : InstrP c rb a len cap xs sat deep k e op W := by
  have HR := hide h
  have HO : Hid (Old W.heap.size c rb a len) := hide (h.old (Nat.le_refl W.heap.size))
  have HIm := hide (imm_any op ho)
  rw [hv] at HIm
  have _ := HI
  have _ := hk
  have _ := hb
  have HV0 := hide hv
  clear h hk hb hv
  unfold InstrP
  go_enter Tryz.func167, Tryz.ntmps167
  go_wp2_with fail
  have hb := below2 W (.cells #[.int .i64 0, .int .u8 0, .int .u32 0, .int .u32 0, .int .u64 0, .slice none 0 0, .slice none 0 0, .slice none 0 0, .bool false] 160) (.cells #[.int .i64 op, .int .u8 0, .int .u32 0, .int .u32 0, .int .u64 0, .slice none 0 0, .slice none 0 0, .slice none 0 0, .bool false] 160)
  have HR := hide ((unhide HR).bel hb)
  have HF := hide (Fr.of hb [c, rb])
  have HN := hide (nv_1 (W := W) op)
  have HV := hide (nv_0 (W := W) (.cells #[.int .i64 op, .int .u8 0, .int .u32 0, .int .u32 0, .int .u64 0, .slice none 0 0, .slice none 0 0, .slice none 0 0, .bool false] 160))
  generalize (W.alloc (.cells #[.int .i64 0, .int .u8 0, .int .u32 0, .int .u32 0, .int .u64 0, .slice none 0 0, .slice none 0 0, .slice none 0 0, .bool false] 160)).alloc (.cells #[.int .i64 op, .int .u8 0, .int .u32 0, .int .u32 0, .int .u64 0, .slice none 0 0, .slice none 0 0, .slice none 0 0, .bool false] 160) = wr at *
  refine ((unhide HIm) _ (unhide HR).var).mono ?_
  rintro _ w0 ⟨rfl, hb1⟩
  have HR := hide ((unhide HR).bel hb1)
  have HF := hide ((unhide HF).bel hb1)
  have HN := hide ((unhide HN).fr (Fr.of hb1 []) (by simp))
  have HV := hide ((unhide HV).fr (Fr.of hb1 []) (by simp))
  clear hb hb1 HIm
  have h0 := (unhide HR).rdr.1
  go_wp2_with fail
  clear h0
  have HX := hide (fixed4_any (unhide HR).cur)
  have HD1 : Hid (Rd (rL 4) xs k e (lift (rL 4) 0 xs k e).1 (lift (rL 4) 0 xs k e).2.1 (lift (rL 4) 0 xs k e).2.2) := hide Rd.lift
  generalize lift (rL 4) 0 xs k e = L at *
  obtain ⟨y1, k1, e1⟩ := L
  dsimp only at *
  refine (unhide HX).mono ?_
  rintro _ w1 ⟨rfl, hC, hF⟩
  have HR := hide ((unhide HR).step hF hC)
  have HF := hide ((unhide HF).trans (fr_c hF))
  have HN := hide ((unhide HN).fr hF (by have := (unhide HO).c; simp; omega))
  have HV := hide ((unhide HV).fr hF (by have := (unhide HO).c; simp; omega))
  clear hC hF HX
  have t0 := (unhide HN).tab 0 _ rfl
  have z0 := (unhide HV).tab 0 _ rfl
  have fz0 := ((unhide HV).room 0 (by decide)).2
  have t1 := (unhide HN).tab 1 _ rfl
  have z1 := (unhide HV).tab 1 _ rfl
  have fz1 := ((unhide HV).room 1 (by decide)).2
  have t2 := (unhide HN).tab 2 _ rfl
  have z2 := (unhide HV).tab 2 _ rfl
  have fz2 := ((unhide HV).room 2 (by decide)).2
  have t3 := (unhide HN).tab 3 _ rfl
  have z3 := (unhide HV).tab 3 _ rfl
  have fz3 := ((unhide HV).room 3 (by decide)).2
  have t4 := (unhide HN).tab 4 _ rfl
  have z4 := (unhide HV).tab 4 _ rfl
  have fz4 := ((unhide HV).room 4 (by decide)).2
  have t5 := (unhide HN).tab 5 _ rfl
  have z5 := (unhide HV).tab 5 _ rfl
  have fz5 := ((unhide HV).room 5 (by decide)).2
  have t6 := (unhide HN).tab 6 _ rfl
  have z6 := (unhide HV).tab 6 _ rfl
  have fz6 := ((unhide HV).room 6 (by decide)).2
  have t7 := (unhide HN).tab 7 _ rfl
  have z7 := (unhide HV).tab 7 _ rfl
  have fz7 := ((unhide HV).room 7 (by decide)).2
  have t8 := (unhide HN).tab 8 _ rfl
  have z8 := (unhide HV).tab 8 _ rfl
  have fz8 := ((unhide HV).room 8 (by decide)).2
  have pf := ((unhide HN).room 4 (by decide)).2
  dsimp only [hd0] at t0 t1 t2 t3 t4 t8
  go_wp2_with fail
  have fA : Fr [W.heap.size + 1] w1 (w1.setCell ⟨W.heap.size + 1, 4, none⟩ (.int .u64 y1)) := (Fr.refl _ _).place _ _
  have HR := hide ((unhide HR).fr fA (unhide HO) (by simp))
  have HF := hide ((unhide HF).set 4 (Or.inr (by omega) : W.heap.size + 1 ∈ [c, rb] ∨ W.heap.size ≤ W.heap.size + 1) (.int .u64 y1))
  refine bodyPost_ret (v := .agg #[.int .i64 op, .int .u8 0, .int .u32 0, .int .u32 0, .int .u64 y1, .slice none 0 0, .slice none 0 0, .slice none 0 0, .bool false]) (by simp [results, Tryz.results167, go_sem, z0, z1, z2, z3, z4, z5, z6, z7, z8]) rfl ?_
  have fZ := fun w => fr_set9 w W.heap.size (.int .i64 op) (.int .u8 0) (.int .u32 0) (.int .u32 0) (.int .u64 y1) (.slice none 0 0) (.slice none 0 0) (.slice none 0 0) (.bool false)
  refine ⟨⟨op, 0, 0, 0, y1, [], false⟩, _, _, _, none, 0, 0, none, 0, 0, (⟨op, 0, 0, 0, y1, [], false⟩, .nil, .nil), _, _, rfl, ?_, fun _ => ⟨rfl, slc_nil _ _, fov_nil _ _, fov_nil _ _⟩, (unhide HR).fr (fZ _) (unhide HO) (by simp), (unhide HF).thenL (fZ _) (by simp)⟩
  rw [show rRest (sq sat) deep op = bd inz (rL 4) fun x => giv ({ hd0 op with bits := x }, .nil, .nil) by unfold rRest rPlain; rw [unhide HV0]; rfl]
  exact (unhide HD1).bd (Rd.giv _ _ _ _)
set_option maxHeartbeats 8000000 in
set_option maxRecDepth 100000 in
theorem instr_11 {n : Nat} {op : Int} {c rb : Nat} {a : Option Addr} {len cap : Nat} {xs : List Int} {sat : Bool} {deep k : Nat} {e : Int} {W : World} (HI : Hid (PSeq c rb a len cap xs sat n)) (h : Rs c rb a len cap xs sat deep k e W) (hk : e = 0 → len - k < n) (hb : imI op = 1 → deep < 64) (ho : op ≤ 9223372036854775807) (hv : imI op = 11) : InstrP c rb a len cap xs sat deep k e op W := by
  have HR := hide h
  have HO : Hid (Old W.heap.size c rb a len) := hide (h.old (Nat.le_refl W.heap.size))
  have HIm := hide (imm_any op ho)
  rw [hv] at HIm
  have _ := HI
  have _ := hk
  have _ := hb
  have HV0 := hide hv
  clear h hk hb hv
  unfold InstrP
  go_enter Tryz.func167, Tryz.ntmps167
  go_wp2_with fail
  have hb := below2 W (.cells #[.int .i64 0, .int .u8 0, .int .u32 0, .int .u32 0, .int .u64 0, .slice none 0 0, .slice none 0 0, .slice none 0 0, .bool false] 160) (.cells #[.int .i64 op, .int .u8 0, .int .u32 0, .int .u32 0, .int .u64 0, .slice none 0 0, .slice none 0 0, .slice none 0 0, .bool false] 160)
  have HR := hide ((unhide HR).bel hb)
  have HF := hide (Fr.of hb [c, rb])
  have HN := hide (nv_1 (W := W) op)
  have HV := hide (nv_0 (W := W) (.cells #[.int .i64 op, .int .u8 0, .int .u32 0, .int .u32 0, .int .u64 0, .slice none 0 0, .slice none 0 0, .slice none 0 0, .bool false] 160))
  generalize (W.alloc (.cells #[.int .i64 0, .int .u8 0, .int .u32 0, .int .u32 0, .int .u64 0, .slice none 0 0, .slice none 0 0, .slice none 0 0, .bool false] 160)).alloc (.cells #[.int .i64 op, .int .u8 0, .int .u32 0, .int .u32 0, .int .u64 0, .slice none 0 0, .slice none 0 0, .slice none 0 0, .bool false] 160) = wr at *
  refine ((unhide HIm) _ (unhide HR).var).mono ?_
  rintro _ w0 ⟨rfl, hb1⟩
  have HR := hide ((unhide HR).bel hb1)
  have HF := hide ((unhide HF).bel hb1)
  have HN := hide ((unhide HN).fr (Fr.of hb1 []) (by simp))
  have HV := hide ((unhide HV).fr (Fr.of hb1 []) (by simp))
  clear hb hb1 HIm
  have h0 := (unhide HR).rdr.1
  go_wp2_with fail
  clear h0
  have HX := hide (fixed8_any (unhide HR).cur)
  have HD1 : Hid (Rd (rL 8) xs k e (lift (rL 8) 0 xs k e).1 (lift (rL 8) 0 xs k e).2.1 (lift (rL 8) 0 xs k e).2.2) := hide Rd.lift
  generalize lift (rL 8) 0 xs k e = L at *
  obtain ⟨y1, k1, e1⟩ := L
  dsimp only at *
  refine (unhide HX).mono ?_
  rintro _ w1 ⟨rfl, hC, hF⟩
  have HR := hide ((unhide HR).step hF hC)
  have HF := hide ((unhide HF).trans (fr_c hF))
  have HN := hide ((unhide HN).fr hF (by have := (unhide HO).c; simp; omega))
  have HV := hide ((unhide HV).fr hF (by have := (unhide HO).c; simp; omega))
  clear hC hF HX
  have t0 := (unhide HN).tab 0 _ rfl
  have z0 := (unhide HV).tab 0 _ rfl
  have fz0 := ((unhide HV).room 0 (by decide)).2
  have t1 := (unhide HN).tab 1 _ rfl
  have z1 := (unhide HV).tab 1 _ rfl
  have fz1 := ((unhide HV).room 1 (by decide)).2
  have t2 := (unhide HN).tab 2 _ rfl
  have z2 := (unhide HV).tab 2 _ rfl
  have fz2 := ((unhide HV).room 2 (by decide)).2
  have t3 := (unhide HN).tab 3 _ rfl
  have z3 := (unhide HV).tab 3 _ rfl
  have fz3 := ((unhide HV).room 3 (by decide)).2
  have t4 := (unhide HN).tab 4 _ rfl
  have z4 := (unhide HV).tab 4 _ rfl
  have fz4 := ((unhide HV).room 4 (by decide)).2
  have t5 := (unhide HN).tab 5 _ rfl
  have z5 := (unhide HV).tab 5 _ rfl
  have fz5 := ((unhide HV).room 5 (by decide)).2
  have t6 := (unhide HN).tab 6 _ rfl
  have z6 := (unhide HV).tab 6 _ rfl
  have fz6 := ((unhide HV).room 6 (by decide)).2
  have t7 := (unhide HN).tab 7 _ rfl
  have z7 := (unhide HV).tab 7 _ rfl
  have fz7 := ((unhide HV).room 7 (by decide)).2
  have t8 := (unhide HN).tab 8 _ rfl
  have z8 := (unhide HV).tab 8 _ rfl
  have fz8 := ((unhide HV).room 8 (by decide)).2
  have pf := ((unhide HN).room 4 (by decide)).2
  dsimp only [hd0] at t0 t1 t2 t3 t4 t8
  go_wp2_with fail
  have fA : Fr [W.heap.size + 1] w1 (w1.setCell ⟨W.heap.size + 1, 4, none⟩ (.int .u64 y1)) := (Fr.refl _ _).place _ _
  have HR := hide ((unhide HR).fr fA (unhide HO) (by simp))
  have HF := hide ((unhide HF).set 4 (Or.inr (by omega) : W.heap.size + 1 ∈ [c, rb] ∨ W.heap.size ≤ W.heap.size + 1) (.int .u64 y1))
  refine bodyPost_ret (v := .agg #[.int .i64 op, .int .u8 0, .int .u32 0, .int .u32 0, .int .u64 y1, .slice none 0 0, .slice none 0 0, .slice none 0 0, .bool false]) (by simp [results, Tryz.results167, go_sem, z0, z1, z2, z3, z4, z5, z6, z7, z8]) rfl ?_
  have fZ := fun w => fr_set9 w W.heap.size (.int .i64 op) (.int .u8 0) (.int .u32 0) (.int .u32 0) (.int .u64 y1) (.slice none 0 0) (.slice none 0 0) (.slice none 0 0) (.bool false)
  refine ⟨⟨op, 0, 0, 0, y1, [], false⟩, _, _, _, none, 0, 0, none, 0, 0, (⟨op, 0, 0, 0, y1, [], false⟩, .nil, .nil), _, _, rfl, ?_, fun _ => ⟨rfl, slc_nil _ _, fov_nil _ _, fov_nil _ _⟩, (unhide HR).fr (fZ _) (unhide HO) (by simp), (unhide HF).thenL (fZ _) (by simp)⟩
  rw [show rRest (sq sat) deep op = bd inz (rL 8) fun x => giv ({ hd0 op with bits := x }, .nil, .nil) by unfold rRest rPlain; rw [unhide HV0]; rfl]
  exact (unhide HD1).bd (Rd.giv _ _ _ _)
theorem instr_any {n : Nat} {op : Int} {c rb : Nat} {a : Option Addr} {len cap : Nat} {xs : List Int} {sat : Bool} {deep k : Nat} {e : Int} {W : World} (HI : Hid (PSeq c rb a len cap xs sat n)) (h : Rs c rb a len cap xs sat deep k e W) (hk : e = 0 → len - k < n) (hb : imI op = 1 → deep < 64) (ho : op ≤ 9223372036854775807) : InstrP c rb a len cap xs sat deep k e op W := by
  by_cases h1 : imI op = 1
  · exact instr_1 HI h hk hb ho h1
  by_cases h2 : imI op = 2
  · exact instr_2 HI h hk hb ho h2
  by_cases h3 : imI op = 3
  · exact instr_3 HI h hk hb ho h3
  by_cases h4 : imI op = 4
  · exact instr_4 HI h hk hb ho h4
  by_cases h5 : imI op = 5
  · exact instr_5 HI h hk hb ho h5
  by_cases h6 : imI op = 6
  · exact instr_6 HI h hk hb ho h6
  by_cases h7 : imI op = 7
  · exact instr_7 HI h hk hb ho h7
  by_cases h8 : imI op = 8
  · exact instr_8 HI h hk hb ho h8
  by_cases h9 : imI op = 9
  · exact instr_9 HI h hk hb ho h9
  by_cases h10 : imI op = 10
  · exact instr_10 HI h hk hb ho h10
  by_cases h11 : imI op = 11
  · exact instr_11 HI h hk hb ho h11
  refine instr_0 HI h hk hb ho (fun j j1 j2 hj => ?_)
  have : j = 1 ∨ j = 2 ∨ j = 3 ∨ j = 4 ∨ j = 5 ∨ j = 6 ∨ j = 7 ∨ j = 8 ∨ j = 9 ∨ j = 10 ∨ j = 11 := by omega
  rcases this with rfl | rfl | rfl | rfl | rfl | rfl | rfl | rfl | rfl | rfl | rfl
  all_goals contradiction
end Go.Proofs.YtjoonmpjcophnaaGreatDoor
namespace Go.Proofs.YtjoonmpjcophnaaGreatDoor
open Go.RowKit

/-- How much there is still to read. -/
def togo (c len : Nat) (w : World) : Nat := 2 * (len - (intOf ((w.cell? ⟨c, 1, none⟩).getD undef)).toNat) + (if intOf ((w.cell? ⟨c, 2, none⟩).getD undef) = 0 then 1 else 0)
theorem togo_cu {c : Nat} {a : Option Addr} {len cap k : Nat} {e : Int} {w : World} (h : Cu c a len cap k e w) : togo c len w = 2 * (len - k) + (if e = 0 then 1 else 0) := by
  unfold togo
  rw [h.2.1, h.2.2.1]
  show 2 * (len - ((k : Int)).toNat) + (if e = 0 then 1 else 0) = _
  rw [Int.toNat_natCast]
theorem iIn : Tryz.prog.info? 160 = some ((Tryz.prog.info? 160).getD default) := by kernel_rfl
theorem size50 : ((Tryz.prog.info? 160).getD default).size = 9 := by kernel_rfl
theorem bytes50 : ((Tryz.prog.info? 160).getD default).bytes ≤ 1000 := Nat.le_of_ble_eq_true (by kernel_rfl)
theorem zero50 : ((Tryz.prog.info? 160).getD default).zero = some (.agg #[.int .i64 0, .int .u8 0, .int .u32 0, .int .u32 0, .int .u64 0, .slice none 0 0, .slice none 0 0, .slice none 0 0, .bool false]) := by kernel_rfl
/-- An opcode that was read is no block's in sixty-four blocks. -/
theorem rOp_deep {sat may : Bool} {deep : Nat} {l : List Int} (h : (rOp sat may deep l).2.2 = 0) : (imI (rOp sat may deep l).1 = 1 → deep ≠ 64) ∧ ((rOp sat may deep l).1 = 5 → may = true) ∧ (rOp sat may deep l).1 ≤ 9223372036854775807 ∨ ¬ Byt l := by
  by_cases hB : Byt l
  · left
    cases l with
    | nil => exact absurd (show (100 : Int) = 0 from h) (by decide)
    | cons b r =>
      have hb := hB b (by simp)
      rw [rOp_cons] at h ⊢
      by_cases q1 : (b == 252 && sat) = true
      · rw [if_pos q1] at h ⊢
        have h1 : (rB (b :: r)).2.2 = 0 := rfl
        unfold rFc at h ⊢
        rw [bd_ok h1] at h ⊢
        have h2 : (rU 32 r).2.2 = 0 := by
          apply Decidable.byContradiction
          intro hn
          rw [show (b :: r).drop (rB (b :: r)).2.1 = r from rfl, bd_no hn] at h
          exact hn h
        rw [show (b :: r).drop (rB (b :: r)).2.1 = r from rfl, bd_ok h2] at h ⊢
        generalize hn : (rU 32 r).1 = n at h ⊢
        cases hd : decide (n ≤ 7) with
        | false => rw [hd] at h; exact absurd (show (108 : Int) = 0 from h) (by decide)
        | true =>
          show (imI (64512 + n) = 1 → deep ≠ 64) ∧ (64512 + n = 5 → may = true) ∧ 64512 + n ≤ 9223372036854775807
          have h0 : 0 ≤ n := by
            have := (rdU_lt r 32 (fun x hx => hB x (by simp [hx]))).1
            rw [← hn]
            exact Int.emod_nonneg _ (by decide)
          have h7 : n ≤ 7 := by simpa using hd
          refine ⟨fun hi => ?_, fun hi => by omega, by omega⟩
          have : n = 0 ∨ n = 1 ∨ n = 2 ∨ n = 3 ∨ n = 4 ∨ n = 5 ∨ n = 6 ∨ n = 7 := by omega
          rcases this with rfl | rfl | rfl | rfl | rfl | rfl | rfl | rfl <;> exact absurd hi (by decide)
      · rw [if_neg q1] at h ⊢
        by_cases q2 : (!imB b || (b == 5 && !may)) = true
        · rw [if_pos q2] at h; exact absurd (show (108 : Int) = 0 from h) (by decide)
        · rw [if_neg q2] at h ⊢
          by_cases q3 : imI b = 1 ∧ deep = 64
          · rw [if_pos q3] at h; exact absurd (show (3 : Int) = 0 from h) (by decide)
          · rw [if_neg q3]
            refine ⟨fun h1 h2 => q3 ⟨h1, h2⟩, fun h5 => ?_, by show b ≤ _; omega⟩
            have h5' : b = 5 := h5
            subst h5'
            cases may
            · exfalso; apply q2; simp
            · rfl
  · exact .inr hB
theorem rd_deep {sat may : Bool} {deep k k' : Nat} {xs : List Int} {y e : Int} (hB : Byt xs) (h : Rd (rOp sat may deep) xs k e y k' 0) : (imI y = 1 → deep ≠ 64) ∧ (y = 5 → may = true) ∧ y ≤ 9223372036854775807 ∧ k + 1 ≤ k' := by
  have he := h.zero rfl
  obtain ⟨a1, a2⟩ := h.live he
  have hp := rOp_pos a2.symm
  rcases rOp_deep a2.symm with h1 | h1
  · rw [← h.val he rfl] at h1
    exact ⟨h1.1, h1.2.1, h1.2.2, by omega⟩
  · exact absurd (byt_dropS hB k) h1
theorem sq_end {sat may : Bool} {deep k k1 : Nat} {xs : List Int} {y e e1 : Int} (h : Rd (rOp sat may deep) xs k e y k1 e1) (hy : e1 ≠ 0 ∨ y = 5 ∨ y = 11) : Rd (sq sat deep may) xs k e (.nil, y == 5) k1 e1 := by
  refine Rd.of_eq (Rd.bd (z := (.nil, false)) (g := fun op => if op = 5 ∨ op = 11 then giv (.nil, op == 5) else bd (.nil, false) (rRest (sq sat) deep op) fun i => bd (.nil, false) (sq sat deep may) fun s => giv (.cons i.1 i.2.1 i.2.2 s.1, s.2)) h ?_) (sq_eq _ _ _ _)
  by_cases he : e1 = 0
  · rw [if_pos (hy.resolve_left (fun q => q he))]
    exact Rd.giv _ _ _ _
  · exact Rd.err _ he
theorem sq_more {sat may : Bool} {deep k k1 k2 k3 : Nat} {xs : List Int} {y e e1 e2 e3 : Int} {i : In} {s : Fo × Bool} (h : Rd (rOp sat may deep) xs k e y k1 e1) (hy : ¬ (y = 5 ∨ y = 11)) (hi : Rd (rRest (sq sat) deep y) xs k1 e1 i k2 e2) (hs : Rd (sq sat deep may) xs k2 e2 s k3 e3) :
    Rd (sq sat deep may) xs k e (.cons i.1 i.2.1 i.2.2 s.1, s.2) k3 e3 := by
  refine Rd.of_eq (Rd.bd (z := (.nil, false)) (g := fun op => if op = 5 ∨ op = 11 then giv (.nil, op == 5) else bd (.nil, false) (rRest (sq sat) deep op) fun i => bd (.nil, false) (sq sat deep may) fun s => giv (.cons i.1 i.2.1 i.2.2 s.1, s.2)) h ?_) (sq_eq _ _ _ _)
  rw [if_neg hy]
  exact hi.bd (hs.bd (Rd.giv _ _ _ _))
set_option maxHeartbeats 8000000 in
set_option maxRecDepth 100000 in
theorem seq_step {n : Nat} {may : Bool} {c rb : Nat} {a : Option Addr} {len cap : Nat} {xs : List Int} {sat : Bool} {deep k : Nat} {e : Int} {W : World} (HI : Hid (e = 0 → PSeq c rb a len cap xs sat n)) (hd : deep ≤ 64) (hn : e = 0 → len - k < n + 1) (h : Rs c rb a len cap xs sat deep k e W) :
  Calls Tryz.prog 158 #[.pointer (some ⟨rb, 0, none⟩), .bool may] W fun r W' => ∃ p q s m T t k' e', r = .returned (.tuple #[.slice p q s, .int .i64 m]) ∧ Rd (sq sat deep may) xs k e (T, t) k' e' ∧ (e' = 0 → Fov W' (fun b => W.heap.size ≤ b) T (.slice p q s) ∧ m = if t then 5 else 11) ∧ Rs c rb a len cap xs sat deep k' e' W' ∧ Fr [c, rb] W W' := by
  have HR0 := hide h
  have HO : Hid (Old W.heap.size c rb a len) := hide (h.old (Nat.le_refl W.heap.size))
  have HN := hide hn
  have HD := hide hd
  have hl6 := h.cur.2.2.2.2.2
  clear h hn hd
  go_enter Tryz.func158, Tryz.ntmps158
  go_wp2_with fail
  go_loopw [4] (fun v4 wr => ∃ (T : Fo) (cs : List Value) (k1 : Nat) (e1 : Int), Rw 160 W.heap.size v4 T cs e1 wr ∧ Rs c rb a len cap xs sat deep k1 e1 wr ∧ Fr [c, rb] W wr ∧ (e1 = 0 → e = 0 ∧ T.len + k ≤ k1) ∧ T.len ≤ len + 1 ∧ ∀ s k' e', Rd (sq sat deep may) xs k1 e1 s k' e' → Rd (sq sat deep may) xs k e (T.app s.1, s.2) k' e') (fun _ wr => togo c len wr)
  case atStart => exact ⟨.nil, [], k, e, rw_nil _ _ _ _, unhide HR0, Fr.refl _ _, fun q => ⟨q, by simp [Fo.len]⟩, by simp [Fo.len], fun s k' e' q => q⟩
  case round =>
    obtain ⟨T, cs, k1, e1, hW, hR, hF, hM, hTl, hK⟩ := hrel
    have hgo := togo_cu hR.cur.1
    have HW := hide hW
    have HF := hide hF
    have HK := hide hK
    have HM := hide hM
    have HG := hide hgo
    have HTL := hide hTl
    go_wp2_with fail
    have HC := hide (unhide HO).c
    have HRb := hide (unhide HO).r
    have HBy := hide hR.byt
    refine (op_any hR).mono ?_
    rintro _ w1 ⟨y, k2, e2, rfl, hD, hR, hF1⟩
    have HW : Hid (Rw 160 W.heap.size u4 T cs e2 w1) := hide ((unhide HW).fr (fr_c (rb := rb) hF1) (by have := unhide HC; have := unhide HRb; simp; omega) (fun q => hD.zero q))
    have HF := hide ((unhide HF).trans (fr_c hF1))
    have HDo := hide hD
    have HR := hide hR
    clear hW hD hF hF1 hM hTl hK hgo
    go_wp2_with fail
    refine (rfailed_any hR).mono ?_
    rintro _ w2 ⟨rfl, hww⟩
    obtain rfl : w1 = w2 := hww.symm
    clear hww
    by_cases he : e2 = 0
    · have he' : (e2 != 0) = false := by simp [he]
      by_cases h5 : y = 5
      · have h5' : (y == 5) = true := by simp [h5]
        clear hR
        go_wp2_with fail
        obtain ⟨p, s, rfl⟩ := (unhide HW).slice
        go_ret2
        have hk := unhide HK _ _ _ (sq_end (unhide HDo) (.inr (.inl h5)))
        rw [Fo.app_nil] at hk
        exact ⟨p, T.len, s, _, T, y == 5, _, _, rfl, hk, fun q => ⟨(unhide HW).fov q, by rw [h5']; rfl⟩, unhide HR, unhide HF⟩
      · have h5' : (y == 5) = false := by simp [h5]
        by_cases h11 : y = 11
        · have h11' : (y == 11) = true := by simp [h11]
          clear hR
          go_wp2_with fail
          obtain ⟨p, s, rfl⟩ := (unhide HW).slice
          go_ret2
          have hk := unhide HK _ _ _ (sq_end (unhide HDo) (.inr (.inr h11)))
          rw [Fo.app_nil] at hk
          exact ⟨p, T.len, s, _, T, y == 5, _, _, rfl, hk, fun q => ⟨(unhide HW).fov q, by rw [h5']; rfl⟩, unhide HR, unhide HF⟩
        · have h11' : (y == 11) = false := by simp [h11]
          subst he
          obtain ⟨d1, d2, d3, d4⟩ := rd_deep (unhide HBy) (unhide HDo)
          have hk2 := hR.cur.2.2.2.2.1
          obtain ⟨m1, m2⟩ := unhide HM ((unhide HDo).zero rfl)
          have hI : InstrP c rb a len cap xs sat deep k2 0 y w1 := instr_any (hide (unhide HI m1)) hR (fun _ => by have := unhide HN m1; omega) (fun q => by have := d1 q; have := unhide HD; omega) d3
          unfold InstrP at hI
          clear hR
          go_wp2_with fail
          refine hI.mono ?_
          clear hI
          rintro _ w3 ⟨h', l1, l2, l3, p1, q1, s1, p2, q2, s2, i, k3, e3, rfl, hDi, hV, hR3, hF3⟩
          obtain ⟨p, s, w4, hrun, hW4, hFr, ll, hll, hlb⟩ := Rw.app (t := 110) (ty := 160) Tryz.underlying110 iIn zero50 size50 rfl bytes50 rfl (unhide HW) ⟨[c, rb], hF3, by have := unhide HC; have := unhide HRb; simp; omega⟩ (unhide HF).size (by omega) (hd := h') (t' := i.2.1) (e' := i.2.2) (lv := .slice l1 l2 l3) (vt := .slice p1 q1 s1) (ve := .slice p2 q2 s2) (e2 := e3) rfl rfl rfl (fun _ => rfl) (fun q => (hV q).2) rfl
          have HR := hide (hR3.fr hll (unhide HO) hlb)
          have HF := hide (hFr _ _ ((unhide HF).trans hF3) (Nat.le_refl _))
          have HX := hide hrun
          have HW := hide hW4
          have HDi := hide hDi
          have HEq := hide (fun q => (hV q).1)
          have hk3 := hR3.cur.2.2.2.2.1
          have hu3 := hDi.up
          clear hrun hW4 hFr hll hlb hDi hV hR3 hF3
          go_wp2_with (at_builtin; refine wpList_appT (by rfl) rfl rfl (unhide HX) ?_)
          refine ⟨⟨T.app (.cons i.1 i.2.1 i.2.2 .nil), cs ++ hcells h' (.slice l1 l2 l3) (.slice p1 q1 s1) (.slice p2 q2 s2), k3, e3, ?_, unhide HR, unhide HF, fun q => ⟨m1, ?_⟩, ?_, fun s k' e' hs => ?_⟩, ?_⟩
          · refine ⟨(unhide HW).own.1 |> fun _ => ?_, fun q => ?_⟩
            · rw [Fo.len_app]; have := (unhide HW).own; rw [Fo.len_app] at this; exact this
            · rw [unhide HEq q]; exact (unhide HW).enc q
          · rw [Fo.len_app]; show T.len + 1 + k ≤ k3; omega
          · rw [Fo.len_app]; show T.len + 1 ≤ len + 1; omega
          · rw [Fo.app_app]
            exact unhide HK _ _ _ (sq_more (unhide HDo) (by omega) (unhide HDi) hs)
          · rw [unhide HG, togo_cu (unhide HR).cur.1, if_pos ((unhide HDo).zero rfl)]
            split <;> omega
    · have he' : (e2 != 0) = true := by simp [he]
      clear hR
      go_wp2_with fail
      obtain ⟨p, s, rfl⟩ := (unhide HW).slice
      go_ret2
      have hk := unhide HK _ _ _ (sq_end (unhide HDo) (.inl he))
      rw [Fo.app_nil] at hk
      exact ⟨p, T.len, s, _, T, y == 5, _, _, rfl, hk, fun q => absurd q he, unhide HR, unhide HF⟩
theorem seq_any {c rb : Nat} {a : Option Addr} {len cap : Nat} {xs : List Int} {sat : Bool} : ∀ n, PSeq c rb a len cap xs sat n
  | 0 => fun _ _ _ _ _ hd hn h => seq_step (n := 0) (hide fun q => absurd (hn q) (Nat.not_lt_zero _)) hd (fun q => by have := hn q; omega) h
  | n + 1 => fun _ _ _ _ _ hd hn h => seq_step (hide fun _ => seq_any n) hd hn h
end Go.Proofs.YtjoonmpjcophnaaGreatDoor
namespace Go.Proofs.YtjoonmpjcophnaaGreatDoor
open Go.RowKit

theorem bd_inv {A B : Type} {z : B} {f : Rr A} {g : A → Rr B} {l : List Int} (h : (bd z f g l).2.2 = 0) : (f l).2.2 = 0 ∧ (g (f l).1 (l.drop (f l).2.1)).2.2 = 0 ∧ bd z f g l = ((g (f l).1 (l.drop (f l).2.1)).1, (f l).2.1 + (g (f l).1 (l.drop (f l).2.1)).2.1, 0) := by
  by_cases h1 : (f l).2.2 = 0
  · rw [bd_ok h1] at h ⊢
    exact ⟨h1, h, by simp only at h; rw [h]⟩
  · rw [bd_no h1] at h
    exact absurd h h1
def Fo.dep : Fo → Nat
  | .nil => 0
  | .cons h t e r => max (if max t.dep e.dep > 0 ∨ t.len + e.len > 0 ∨ (2 ≤ h.op ∧ h.op ≤ 4) then max t.dep e.dep + 1 else max t.dep e.dep) r.dep
/-- No list is too long, for what was read. -/
def Lk : Fo → Prop
  | .nil => True
  | .cons h t e r => h.op ≤ 9223372036854775807 ∧ h.list.length ≤ 4096 ∧ Lk t ∧ Lk e ∧ Lk r
/-- What holds of instructions that were read. -/
structure Red (deep : Nat) (may : Bool) (l : List Int) (x : (Fo × Bool) × Nat × Int) : Prop where
  size : x.1.1.size + 1 ≤ x.2.1
  lk : Lk x.1.1
  dep : x.1.1.dep + deep ≤ 64
  last : may = false → x.1.2 = false ∧ l.getD (x.2.1 - 1) 0 = 11
/-- What holds of one that was read. -/
structure Rei (deep : Nat) (op : Int) (x : In × Nat × Int) : Prop where
  size : x.1.2.1.size + x.1.2.2.size ≤ x.2.1
  list : x.1.1.list.length ≤ 4096
  lk : Lk x.1.2.1 ∧ Lk x.1.2.2
  opq : x.1.1.op = op
  blk : imI op = 1 → x.1.2.1.dep + deep + 1 ≤ 64 ∧ x.1.2.2.dep + deep + 1 ≤ 64
  non : imI op ≠ 1 → x.1.2.1 = .nil ∧ x.1.2.2 = .nil
end Go.Proofs.YtjoonmpjcophnaaGreatDoor
namespace Go.Proofs.YtjoonmpjcophnaaGreatDoor
open Go.RowKit

set_option maxHeartbeats 2000000 in
set_option maxRecDepth 100000 in
theorem expr_any {c : Nat} {a : Option Addr} {len cap k : Nat} {xs : List Int} {sat : Bool} {e : Int} {W : World} (h : Cs c a len cap xs k e W) (hm : Mk W) (hc : 4 ≤ c) :
    Calls Tryz.prog 147 #[.pointer (some ⟨c, 0, none⟩), .bool sat] W fun r W' => ∃ p q s T t k' e', r = .returned (.slice p q s) ∧ Rd (sq sat 0 false) xs k e (T, t) k' e' ∧ (e' = 0 → Fov W' (fun b => W.heap.size ≤ b) T (.slice p q s)) ∧ (e' ≠ 0 → Value.slice p q s = .slice none 0 0) ∧ Cs c a len cap xs k' e' W' ∧ Mk W' ∧ Fr [c] W W' := by
  have HE := hide (err_any h)
  have H := hide h
  have HM := hide hm
  by_cases he : e = 0
  · have he' : (e != 0) = false := by simp [he]
    have HO : Hid (c < W.heap.size ∧ ∀ p, a = some p → 0 < len → p.block < W.heap.size) := hide ⟨h.1.lt, h.2.1.lt⟩
    clear h hm
    go_enter Tryz.func147, Tryz.ntmps147
    go_wp2_with fail
    refine (unhide HE).mono ?_
    rintro _ w1 ⟨rfl, hww⟩
    obtain rfl : W = w1 := hww.symm
    clear hww HE
    go_wp2_with fail
    have hb := below1 W (.cells #[.pointer (some ⟨c, 0, none⟩), .bool sat, .int .i64 0] 240)
    have hR : Rs c W.heap.size a len cap xs sat 0 k e (W.alloc (.cells #[.pointer (some ⟨c, 0, none⟩), .bool sat, .int .i64 0] 240)) := by
      refine ⟨(unhide H).bel hb, ⟨by simp [go_sem], by simp [go_sem], by simp [go_sem]⟩, room_cells (cs := [.pointer (some ⟨c, 0, none⟩), .bool sat, .int .i64 0]) (t := 240) W 3 (Nat.le_refl _), (unhide HM).below hb, ?_, hc, ?_, fun p hp hl => ?_⟩
      · have := (unhide HO).1; omega
      · have := (unhide HO).1; omega
      · have := (unhide HO).2 p hp hl; omega
    have HF := hide (Fr.of hb [c])
    have HS := hide hb.size
    clear hb
    generalize W.alloc (.cells #[.pointer (some ⟨c, 0, none⟩), .bool sat, .int .i64 0] 240) = w2 at *
    refine (seq_any (len - k + 1) 0 k e false w2 (by decide) (fun _ => by omega) hR).mono ?_
    rintro _ w3 ⟨p, q, s, m, T, t, k', e', rfl, hD, hV, hR, hF⟩
    have HR := hide hR
    have HD := hide hD
    have HV := hide (fun q => (hV q).1.mono (P' := fun b => W.heap.size ≤ b) (fun b _ h => Nat.le_trans (unhide HS) h))
    have HF := hide ((unhide HF).thenL hF (by simp))
    clear hR hD hV hF
    go_wp2_with fail
    refine (rfailed_any (unhide HR)).mono ?_
    rintro _ w4 ⟨rfl, hww⟩
    obtain rfl : w3 = w4 := hww.symm
    clear hww
    by_cases h' : e' = 0
    · have h'' : (e' != 0) = false := by simp [h']
      go_wp2_with fail
      go_ret
      exact ⟨p, q, s, T, t, k', e', rfl, unhide HD, unhide HV, fun q => absurd h' q, (unhide HR).cur, (unhide HR).var, unhide HF⟩
    · have h'' : (e' != 0) = true := by simp [h']
      go_wp2_with fail
      go_ret
      exact ⟨none, 0, 0, T, t, k', e', rfl, unhide HD, fun q => absurd q h', fun _ => rfl, (unhide HR).cur, (unhide HR).var, unhide HF⟩
  · have he' : (e != 0) = true := by simp [he]
    clear h hm
    go_enter Tryz.func147, Tryz.ntmps147
    go_wp2_with fail
    refine (unhide HE).mono ?_
    rintro _ w1 ⟨rfl, hww⟩
    obtain rfl : W = w1 := hww.symm
    clear hww
    go_wp2_with fail
    go_ret
    exact ⟨none, 0, 0, .nil, false, k, e, rfl, Rd.err _ he, fun q => absurd q he, fun _ => rfl, unhide H, unhide HM, Fr.refl _ _⟩
end Go.Proofs.YtjoonmpjcophnaaGreatDoor
