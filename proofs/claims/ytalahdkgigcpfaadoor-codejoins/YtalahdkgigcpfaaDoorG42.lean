/- CdG, CdI, CdN, CdJ, CeL, CeM. -/
import Derived.Test.YtalahdkgigcpfaaDoorG39
import Derived.Test.YtalahdkgigcpfaaDoorG40
import Derived.Test.YtalahdkgigcpfaaDoorG41
namespace Go.Proofs.YtalahdkgigcpfaaDoor
open Go.RowKit

set_option maxHeartbeats 8000000 in
set_option maxRecDepth 100000 in
theorem instr_6 {n : Nat} {op : Int} {c rb : Nat} {a : Option Addr} {len cap : Nat} {xs : List Int} {sat : Bool} {deep k : Nat} {e : Int} {W : World} (HI : Hid (PSeq c rb a len cap xs sat n)) (h : Rs c rb a len cap xs sat deep k e W) (hk : e = 0 → len - k < n) (hb : imI op = 1 → deep < 64) (ho : op ≤ 9223372036854775807) (hv : imI op = 6) : InstrP c rb a len cap xs sat deep k e op W := by
  have HR := hide h
  have HO : Hid (Old W.heap.size c rb a len) := hide (h.old (Nat.le_refl W.heap.size))
  have HIm := hide (imm_any op ho)
  rw [hv] at HIm
  have _ := HI
  have _ := hk
  have _ := hb
  have HV0 := hide hv
  clear h hk hb hv
  unfold InstrP
  go_enter Tryd.func36, Tryd.ntmps36
  go_wp2_with fail
  have hb := below2 W (.cells #[.int .i64 0, .int .u8 0, .int .u32 0, .int .u32 0, .int .u64 0, .slice none 0 0, .slice none 0 0, .slice none 0 0, .bool false] 50) (.cells #[.int .i64 op, .int .u8 0, .int .u32 0, .int .u32 0, .int .u64 0, .slice none 0 0, .slice none 0 0, .slice none 0 0, .bool false] 50)
  have HR := hide ((unhide HR).bel hb)
  have HF := hide (Fr.of hb [c, rb])
  have HN := hide (nv_1 (W := W) op)
  have HV := hide (nv_0 (W := W) (.cells #[.int .i64 op, .int .u8 0, .int .u32 0, .int .u32 0, .int .u64 0, .slice none 0 0, .slice none 0 0, .slice none 0 0, .bool false] 50))
  generalize (W.alloc (.cells #[.int .i64 0, .int .u8 0, .int .u32 0, .int .u32 0, .int .u64 0, .slice none 0 0, .slice none 0 0, .slice none 0 0, .bool false] 50)).alloc (.cells #[.int .i64 op, .int .u8 0, .int .u32 0, .int .u32 0, .int .u64 0, .slice none 0 0, .slice none 0 0, .slice none 0 0, .bool false] 50) = wr at *
  refine ((unhide HIm) _ (unhide HR).var).mono ?_
  rintro _ w0 ⟨rfl, hb1⟩
  have HR := hide ((unhide HR).bel hb1)
  have HF := hide ((unhide HF).bel hb1)
  have HN := hide ((unhide HN).fr (Fr.of hb1 []) (by simp))
  have HV := hide ((unhide HV).fr (Fr.of hb1 []) (by simp))
  clear hb hb1 HIm
  have h0 := (unhide HR).rdr.1
  go_wp2_with fail
  clear h0
  have HX := hide (u32_any (unhide HR).cur)
  have HD1 : Hid (Rd (rU 32) xs k e (lift (rU 32) 0 xs k e).1 (lift (rU 32) 0 xs k e).2.1 (lift (rU 32) 0 xs k e).2.2) := hide Rd.lift
  generalize lift (rU 32) 0 xs k e = L at *
  obtain ⟨y1, k1, e1⟩ := L
  dsimp only at *
  refine (unhide HX).mono ?_
  rintro _ w1 ⟨rfl, hC, hF⟩
  have HR := hide ((unhide HR).step hF hC)
  have HF := hide ((unhide HF).trans (fr_c hF))
  have HN := hide ((unhide HN).fr hF (by have := (unhide HO).c; simp; omega))
  have HV := hide ((unhide HV).fr hF (by have := (unhide HO).c; simp; omega))
  clear hC hF HX
  have h0 := (unhide HR).rdr.1
  obtain ⟨⟨u, g⟩, f⟩ := (unhide HN).room 2 (by decide)
  go_wp2_with fail
  clear f g u
  clear h0
  have fA : Fr [W.heap.size + 1] w1 (w1.setCell ⟨W.heap.size + 1, 2, none⟩ (.int .u32 y1)) := (Fr.refl _ _).place _ _
  have HR := hide ((unhide HR).fr fA (unhide HO) (by simp))
  have HF := hide ((unhide HF).set 2 (Or.inr (by omega) : W.heap.size + 1 ∈ [c, rb] ∨ W.heap.size ≤ W.heap.size + 1) (.int .u32 y1))
  have HN : Hid (Nv W.heap.size (W.heap.size + 1) (hcells ⟨op, 0, y1, 0, 0, [], false⟩ (.slice none 0 0) (.slice none 0 0) (.slice none 0 0)) _) := hide ((unhide HN).set 2 (.int .u32 y1))
  have HV := hide ((unhide HV).fr fA (by simp))
  clear fA
  generalize w1.setCell ⟨W.heap.size + 1, 2, none⟩ (.int .u32 y1) = w1s at *
  have HX := hide (u32_any (unhide HR).cur)
  have HD2 : Hid (Rd (rU 32) xs k1 e1 (lift (rU 32) 0 xs k1 e1).1 (lift (rU 32) 0 xs k1 e1).2.1 (lift (rU 32) 0 xs k1 e1).2.2) := hide Rd.lift
  generalize lift (rU 32) 0 xs k1 e1 = L at *
  obtain ⟨y2, k2, e2⟩ := L
  dsimp only at *
  refine (unhide HX).mono ?_
  rintro _ w2 ⟨rfl, hC, hF⟩
  have HR := hide ((unhide HR).step hF hC)
  have HF := hide ((unhide HF).trans (fr_c hF))
  have HN := hide ((unhide HN).fr hF (by have := (unhide HO).c; simp; omega))
  have HV := hide ((unhide HV).fr hF (by have := (unhide HO).c; simp; omega))
  clear hC hF HX
  have t0 := (unhide HN).tab 0 _ rfl
  have z0 := (unhide HV).tab 0 _ rfl
  have fz0 := ((unhide HV).room 0 (by decide)).2
  have t1 := (unhide HN).tab 1 _ rfl
  have z1 := (unhide HV).tab 1 _ rfl
  have fz1 := ((unhide HV).room 1 (by decide)).2
  have t2 := (unhide HN).tab 2 _ rfl
  have z2 := (unhide HV).tab 2 _ rfl
  have fz2 := ((unhide HV).room 2 (by decide)).2
  have t3 := (unhide HN).tab 3 _ rfl
  have z3 := (unhide HV).tab 3 _ rfl
  have fz3 := ((unhide HV).room 3 (by decide)).2
  have t4 := (unhide HN).tab 4 _ rfl
  have z4 := (unhide HV).tab 4 _ rfl
  have fz4 := ((unhide HV).room 4 (by decide)).2
  have t5 := (unhide HN).tab 5 _ rfl
  have z5 := (unhide HV).tab 5 _ rfl
  have fz5 := ((unhide HV).room 5 (by decide)).2
  have t6 := (unhide HN).tab 6 _ rfl
  have z6 := (unhide HV).tab 6 _ rfl
  have fz6 := ((unhide HV).room 6 (by decide)).2
  have t7 := (unhide HN).tab 7 _ rfl
  have z7 := (unhide HV).tab 7 _ rfl
  have fz7 := ((unhide HV).room 7 (by decide)).2
  have t8 := (unhide HN).tab 8 _ rfl
  have z8 := (unhide HV).tab 8 _ rfl
  have fz8 := ((unhide HV).room 8 (by decide)).2
  have pf := ((unhide HN).room 3 (by decide)).2
  (try dsimp only [hd0] at t0 t1 t2 t3 t4 t8)
  go_wp2_with fail
  have fA : Fr [W.heap.size + 1] w2 (w2.setCell ⟨W.heap.size + 1, 3, none⟩ (.int .u32 y2)) := (Fr.refl _ _).place _ _
  have HR := hide ((unhide HR).fr fA (unhide HO) (by simp))
  have HF := hide ((unhide HF).set 3 (Or.inr (by omega) : W.heap.size + 1 ∈ [c, rb] ∨ W.heap.size ≤ W.heap.size + 1) (.int .u32 y2))
  refine bodyPost_ret (v := .agg #[.int .i64 op, .int .u8 0, .int .u32 y1, .int .u32 y2, .int .u64 0, .slice none 0 0, .slice none 0 0, .slice none 0 0, .bool false]) (by simp [results, Tryd.results36, go_sem, z0, z1, z2, z3, z4, z5, z6, z7, z8]) rfl ?_
  have fZ := fun w => fr_set9 w W.heap.size (.int .i64 op) (.int .u8 0) (.int .u32 y1) (.int .u32 y2) (.int .u64 0) (.slice none 0 0) (.slice none 0 0) (.slice none 0 0) (.bool false)
  refine ⟨⟨op, 0, y1, y2, 0, [], false⟩, _, _, _, none, 0, 0, none, 0, 0, (⟨op, 0, y1, y2, 0, [], false⟩, .nil, .nil), _, _, rfl, ?_, fun _ => ⟨rfl, slc_nil _ _, fov_nil _ _, fov_nil _ _⟩, (unhide HR).fr (fZ _) (unhide HO) (by simp), (unhide HF).thenL (fZ _) (by simp)⟩
  rw [show rRest (sq sat) deep op = bd inz (rU 32) fun a => bd inz (rU 32) fun b => giv ({ hd0 op with a := a, b := b }, .nil, .nil) by unfold rRest rPlain; rw [unhide HV0]; rfl]
  exact (unhide HD1).bd ((unhide HD2).bd (Rd.giv _ _ _ _))
set_option maxHeartbeats 8000000 in
set_option maxRecDepth 100000 in
theorem instr_7 {n : Nat} {op : Int} {c rb : Nat} {a : Option Addr} {len cap : Nat} {xs : List Int} {sat : Bool} {deep k : Nat} {e : Int} {W : World} (HI : Hid (PSeq c rb a len cap xs sat n)) (h : Rs c rb a len cap xs sat deep k e W) (hk : e = 0 → len - k < n) (hb : imI op = 1 → deep < 64) (ho : op ≤ 9223372036854775807) (hv : imI op = 7) : InstrP c rb a len cap xs sat deep k e op W := by
  have HR := hide h
  have HO : Hid (Old W.heap.size c rb a len) := hide (h.old (Nat.le_refl W.heap.size))
  have HIm := hide (imm_any op ho)
  rw [hv] at HIm
  have _ := HI
  have _ := hk
  have _ := hb
  have HV0 := hide hv
  clear h hk hb hv
  unfold InstrP
  go_enter Tryd.func36, Tryd.ntmps36
  go_wp2_with fail
  have hb := below2 W (.cells #[.int .i64 0, .int .u8 0, .int .u32 0, .int .u32 0, .int .u64 0, .slice none 0 0, .slice none 0 0, .slice none 0 0, .bool false] 50) (.cells #[.int .i64 op, .int .u8 0, .int .u32 0, .int .u32 0, .int .u64 0, .slice none 0 0, .slice none 0 0, .slice none 0 0, .bool false] 50)
  have HR := hide ((unhide HR).bel hb)
  have HF := hide (Fr.of hb [c, rb])
  have HN := hide (nv_1 (W := W) op)
  have HV := hide (nv_0 (W := W) (.cells #[.int .i64 op, .int .u8 0, .int .u32 0, .int .u32 0, .int .u64 0, .slice none 0 0, .slice none 0 0, .slice none 0 0, .bool false] 50))
  generalize (W.alloc (.cells #[.int .i64 0, .int .u8 0, .int .u32 0, .int .u32 0, .int .u64 0, .slice none 0 0, .slice none 0 0, .slice none 0 0, .bool false] 50)).alloc (.cells #[.int .i64 op, .int .u8 0, .int .u32 0, .int .u32 0, .int .u64 0, .slice none 0 0, .slice none 0 0, .slice none 0 0, .bool false] 50) = wr at *
  refine ((unhide HIm) _ (unhide HR).var).mono ?_
  rintro _ w0 ⟨rfl, hb1⟩
  have HR := hide ((unhide HR).bel hb1)
  have HF := hide ((unhide HF).bel hb1)
  have HN := hide ((unhide HN).fr (Fr.of hb1 []) (by simp))
  have HV := hide ((unhide HV).fr (Fr.of hb1 []) (by simp))
  clear hb hb1 HIm
  have h0 := (unhide HR).rdr.1
  go_wp2_with fail
  clear h0
  refine (nought_any (unhide HR)).mono ?_
  rintro _ w1 ⟨k1, e1, rfl, hd, hR, hF⟩
  have HD1 := hide hd
  have HR := hide hR
  have HF := hide ((unhide HF).trans (fr_c hF))
  have HN := hide ((unhide HN).fr hF (by have := (unhide HO).c; simp; omega))
  have HV := hide ((unhide HV).fr hF (by have := (unhide HO).c; simp; omega))
  clear hd hR hF
  have t0 := (unhide HN).tab 0 _ rfl
  have z0 := (unhide HV).tab 0 _ rfl
  have fz0 := ((unhide HV).room 0 (by decide)).2
  have t1 := (unhide HN).tab 1 _ rfl
  have z1 := (unhide HV).tab 1 _ rfl
  have fz1 := ((unhide HV).room 1 (by decide)).2
  have t2 := (unhide HN).tab 2 _ rfl
  have z2 := (unhide HV).tab 2 _ rfl
  have fz2 := ((unhide HV).room 2 (by decide)).2
  have t3 := (unhide HN).tab 3 _ rfl
  have z3 := (unhide HV).tab 3 _ rfl
  have fz3 := ((unhide HV).room 3 (by decide)).2
  have t4 := (unhide HN).tab 4 _ rfl
  have z4 := (unhide HV).tab 4 _ rfl
  have fz4 := ((unhide HV).room 4 (by decide)).2
  have t5 := (unhide HN).tab 5 _ rfl
  have z5 := (unhide HV).tab 5 _ rfl
  have fz5 := ((unhide HV).room 5 (by decide)).2
  have t6 := (unhide HN).tab 6 _ rfl
  have z6 := (unhide HV).tab 6 _ rfl
  have fz6 := ((unhide HV).room 6 (by decide)).2
  have t7 := (unhide HN).tab 7 _ rfl
  have z7 := (unhide HV).tab 7 _ rfl
  have fz7 := ((unhide HV).room 7 (by decide)).2
  have t8 := (unhide HN).tab 8 _ rfl
  have z8 := (unhide HV).tab 8 _ rfl
  have fz8 := ((unhide HV).room 8 (by decide)).2
  dsimp only [hd0] at t0 t1 t2 t3 t4 t8
  go_wp2_with fail
  refine bodyPost_ret (v := .agg #[.int .i64 op, .int .u8 0, .int .u32 0, .int .u32 0, .int .u64 0, .slice none 0 0, .slice none 0 0, .slice none 0 0, .bool false]) (by simp [results, Tryd.results36, go_sem, z0, z1, z2, z3, z4, z5, z6, z7, z8]) rfl ?_
  have fZ := fun w => fr_set9 w W.heap.size (.int .i64 op) (.int .u8 0) (.int .u32 0) (.int .u32 0) (.int .u64 0) (.slice none 0 0) (.slice none 0 0) (.slice none 0 0) (.bool false)
  refine ⟨⟨op, 0, 0, 0, 0, [], false⟩, _, _, _, none, 0, 0, none, 0, 0, (⟨op, 0, 0, 0, 0, [], false⟩, .nil, .nil), _, _, rfl, ?_, fun _ => ⟨rfl, slc_nil _ _, fov_nil _ _, fov_nil _ _⟩, (unhide HR).fr (fZ _) (unhide HO) (by simp), (unhide HF).thenL (fZ _) (by simp)⟩
  rw [show rRest (sq sat) deep op = bd inz r0 fun _ => giv (hd0 op, .nil, .nil) by unfold rRest rPlain; rw [unhide HV0]; rfl]
  exact (unhide HD1).bd (Rd.giv _ _ _ _)
set_option maxHeartbeats 8000000 in
set_option maxRecDepth 100000 in
theorem instr_8 {n : Nat} {op : Int} {c rb : Nat} {a : Option Addr} {len cap : Nat} {xs : List Int} {sat : Bool} {deep k : Nat} {e : Int} {W : World} (HI : Hid (PSeq c rb a len cap xs sat n)) (h : Rs c rb a len cap xs sat deep k e W) (hk : e = 0 → len - k < n) (hb : imI op = 1 → deep < 64) (ho : op ≤ 9223372036854775807) (hv : imI op = 8) : InstrP c rb a len cap xs sat deep k e op W := by
  have HR := hide h
  have HO : Hid (Old W.heap.size c rb a len) := hide (h.old (Nat.le_refl W.heap.size))
  have HIm := hide (imm_any op ho)
  rw [hv] at HIm
  have _ := HI
  have _ := hk
  have _ := hb
  have HV0 := hide hv
  clear h hk hb hv
  unfold InstrP
  go_enter Tryd.func36, Tryd.ntmps36
  go_wp2_with fail
  have hb := below2 W (.cells #[.int .i64 0, .int .u8 0, .int .u32 0, .int .u32 0, .int .u64 0, .slice none 0 0, .slice none 0 0, .slice none 0 0, .bool false] 50) (.cells #[.int .i64 op, .int .u8 0, .int .u32 0, .int .u32 0, .int .u64 0, .slice none 0 0, .slice none 0 0, .slice none 0 0, .bool false] 50)
  have HR := hide ((unhide HR).bel hb)
  have HF := hide (Fr.of hb [c, rb])
  have HN := hide (nv_1 (W := W) op)
  have HV := hide (nv_0 (W := W) (.cells #[.int .i64 op, .int .u8 0, .int .u32 0, .int .u32 0, .int .u64 0, .slice none 0 0, .slice none 0 0, .slice none 0 0, .bool false] 50))
  generalize (W.alloc (.cells #[.int .i64 0, .int .u8 0, .int .u32 0, .int .u32 0, .int .u64 0, .slice none 0 0, .slice none 0 0, .slice none 0 0, .bool false] 50)).alloc (.cells #[.int .i64 op, .int .u8 0, .int .u32 0, .int .u32 0, .int .u64 0, .slice none 0 0, .slice none 0 0, .slice none 0 0, .bool false] 50) = wr at *
  refine ((unhide HIm) _ (unhide HR).var).mono ?_
  rintro _ w0 ⟨rfl, hb1⟩
  have HR := hide ((unhide HR).bel hb1)
  have HF := hide ((unhide HF).bel hb1)
  have HN := hide ((unhide HN).fr (Fr.of hb1 []) (by simp))
  have HV := hide ((unhide HV).fr (Fr.of hb1 []) (by simp))
  clear hb hb1 HIm
  have h0 := (unhide HR).rdr.1
  go_wp2_with fail
  clear h0
  obtain ⟨y1, k1, e1, hd, hs, hx⟩ := s32b (unhide HR).cur
  have HX := hide hx
  have HD1 := hide hd
  have i64w : IntKind.u64.wrap y1 = y1 := u64_id (by omega) (by omega)
  clear hx hd
  refine (unhide HX).mono ?_
  rintro _ w1 ⟨rfl, hC, hF⟩
  have HR := hide ((unhide HR).step hF hC)
  have HF := hide ((unhide HF).trans (fr_c hF))
  have HN := hide ((unhide HN).fr hF (by have := (unhide HO).c; simp; omega))
  have HV := hide ((unhide HV).fr hF (by have := (unhide HO).c; simp; omega))
  clear hC hF HX
  have t0 := (unhide HN).tab 0 _ rfl
  have z0 := (unhide HV).tab 0 _ rfl
  have fz0 := ((unhide HV).room 0 (by decide)).2
  have t1 := (unhide HN).tab 1 _ rfl
  have z1 := (unhide HV).tab 1 _ rfl
  have fz1 := ((unhide HV).room 1 (by decide)).2
  have t2 := (unhide HN).tab 2 _ rfl
  have z2 := (unhide HV).tab 2 _ rfl
  have fz2 := ((unhide HV).room 2 (by decide)).2
  have t3 := (unhide HN).tab 3 _ rfl
  have z3 := (unhide HV).tab 3 _ rfl
  have fz3 := ((unhide HV).room 3 (by decide)).2
  have t4 := (unhide HN).tab 4 _ rfl
  have z4 := (unhide HV).tab 4 _ rfl
  have fz4 := ((unhide HV).room 4 (by decide)).2
  have t5 := (unhide HN).tab 5 _ rfl
  have z5 := (unhide HV).tab 5 _ rfl
  have fz5 := ((unhide HV).room 5 (by decide)).2
  have t6 := (unhide HN).tab 6 _ rfl
  have z6 := (unhide HV).tab 6 _ rfl
  have fz6 := ((unhide HV).room 6 (by decide)).2
  have t7 := (unhide HN).tab 7 _ rfl
  have z7 := (unhide HV).tab 7 _ rfl
  have fz7 := ((unhide HV).room 7 (by decide)).2
  have t8 := (unhide HN).tab 8 _ rfl
  have z8 := (unhide HV).tab 8 _ rfl
  have fz8 := ((unhide HV).room 8 (by decide)).2
  have pf := ((unhide HN).room 4 (by decide)).2
  dsimp only [hd0] at t0 t1 t2 t3 t4 t8
  go_wp2_with fail
  have fA : Fr [W.heap.size + 1] w1 (w1.setCell ⟨W.heap.size + 1, 4, none⟩ (.int .u64 y1)) := (Fr.refl _ _).place _ _
  have HR := hide ((unhide HR).fr fA (unhide HO) (by simp))
  have HF := hide ((unhide HF).set 4 (Or.inr (by omega) : W.heap.size + 1 ∈ [c, rb] ∨ W.heap.size ≤ W.heap.size + 1) (.int .u64 y1))
  refine bodyPost_ret (v := .agg #[.int .i64 op, .int .u8 0, .int .u32 0, .int .u32 0, .int .u64 y1, .slice none 0 0, .slice none 0 0, .slice none 0 0, .bool false]) (by simp [results, Tryd.results36, go_sem, z0, z1, z2, z3, z4, z5, z6, z7, z8]) rfl ?_
  have fZ := fun w => fr_set9 w W.heap.size (.int .i64 op) (.int .u8 0) (.int .u32 0) (.int .u32 0) (.int .u64 y1) (.slice none 0 0) (.slice none 0 0) (.slice none 0 0) (.bool false)
  refine ⟨⟨op, 0, 0, 0, y1, [], false⟩, _, _, _, none, 0, 0, none, 0, 0, (⟨op, 0, 0, 0, y1, [], false⟩, .nil, .nil), _, _, rfl, ?_, fun _ => ⟨rfl, slc_nil _ _, fov_nil _ _, fov_nil _ _⟩, (unhide HR).fr (fZ _) (unhide HO) (by simp), (unhide HF).thenL (fZ _) (by simp)⟩
  rw [show rRest (sq sat) deep op = bd inz rS32 fun x => giv ({ hd0 op with bits := x }, .nil, .nil) by unfold rRest rPlain; rw [unhide HV0]; rfl]
  exact (unhide HD1).bd (Rd.giv _ _ _ _)
set_option maxHeartbeats 8000000 in
set_option maxRecDepth 100000 in
theorem instr_9 {n : Nat} {op : Int} {c rb : Nat} {a : Option Addr} {len cap : Nat} {xs : List Int} {sat : Bool} {deep k : Nat} {e : Int} {W : World} (HI : Hid (PSeq c rb a len cap xs sat n)) (h : Rs c rb a len cap xs sat deep k e W) (hk : e = 0 → len - k < n) (hb : imI op = 1 → deep < 64) (ho : op ≤ 9223372036854775807) (hv : imI op = 9) : InstrP c rb a len cap xs sat deep k e op W := by
  have HR := hide h
  have HO : Hid (Old W.heap.size c rb a len) := hide (h.old (Nat.le_refl W.heap.size))
  have HIm := hide (imm_any op ho)
  rw [hv] at HIm
  have _ := HI
  have _ := hk
  have _ := hb
  have HV0 := hide hv
  clear h hk hb hv
  unfold InstrP
  go_enter Tryd.func36, Tryd.ntmps36
  go_wp2_with fail
  have hb := below2 W (.cells #[.int .i64 0, .int .u8 0, .int .u32 0, .int .u32 0, .int .u64 0, .slice none 0 0, .slice none 0 0, .slice none 0 0, .bool false] 50) (.cells #[.int .i64 op, .int .u8 0, .int .u32 0, .int .u32 0, .int .u64 0, .slice none 0 0, .slice none 0 0, .slice none 0 0, .bool false] 50)
  have HR := hide ((unhide HR).bel hb)
  have HF := hide (Fr.of hb [c, rb])
  have HN := hide (nv_1 (W := W) op)
  have HV := hide (nv_0 (W := W) (.cells #[.int .i64 op, .int .u8 0, .int .u32 0, .int .u32 0, .int .u64 0, .slice none 0 0, .slice none 0 0, .slice none 0 0, .bool false] 50))
  generalize (W.alloc (.cells #[.int .i64 0, .int .u8 0, .int .u32 0, .int .u32 0, .int .u64 0, .slice none 0 0, .slice none 0 0, .slice none 0 0, .bool false] 50)).alloc (.cells #[.int .i64 op, .int .u8 0, .int .u32 0, .int .u32 0, .int .u64 0, .slice none 0 0, .slice none 0 0, .slice none 0 0, .bool false] 50) = wr at *
  refine ((unhide HIm) _ (unhide HR).var).mono ?_
  rintro _ w0 ⟨rfl, hb1⟩
  have HR := hide ((unhide HR).bel hb1)
  have HF := hide ((unhide HF).bel hb1)
  have HN := hide ((unhide HN).fr (Fr.of hb1 []) (by simp))
  have HV := hide ((unhide HV).fr (Fr.of hb1 []) (by simp))
  clear hb hb1 HIm
  have h0 := (unhide HR).rdr.1
  go_wp2_with fail
  clear h0
  have HX := hide (s64_any (unhide HR).cur)
  have HD1 : Hid (Rd (rS 64) xs k e (lift (rS 64) 0 xs k e).1 (lift (rS 64) 0 xs k e).2.1 (lift (rS 64) 0 xs k e).2.2) := hide Rd.lift
  generalize lift (rS 64) 0 xs k e = L at *
  obtain ⟨y1, k1, e1⟩ := L
  dsimp only at *
  refine (unhide HX).mono ?_
  rintro _ w1 ⟨rfl, hC, hF⟩
  have HR := hide ((unhide HR).step hF hC)
  have HF := hide ((unhide HF).trans (fr_c hF))
  have HN := hide ((unhide HN).fr hF (by have := (unhide HO).c; simp; omega))
  have HV := hide ((unhide HV).fr hF (by have := (unhide HO).c; simp; omega))
  clear hC hF HX
  have t0 := (unhide HN).tab 0 _ rfl
  have z0 := (unhide HV).tab 0 _ rfl
  have fz0 := ((unhide HV).room 0 (by decide)).2
  have t1 := (unhide HN).tab 1 _ rfl
  have z1 := (unhide HV).tab 1 _ rfl
  have fz1 := ((unhide HV).room 1 (by decide)).2
  have t2 := (unhide HN).tab 2 _ rfl
  have z2 := (unhide HV).tab 2 _ rfl
  have fz2 := ((unhide HV).room 2 (by decide)).2
  have t3 := (unhide HN).tab 3 _ rfl
  have z3 := (unhide HV).tab 3 _ rfl
  have fz3 := ((unhide HV).room 3 (by decide)).2
  have t4 := (unhide HN).tab 4 _ rfl
  have z4 := (unhide HV).tab 4 _ rfl
  have fz4 := ((unhide HV).room 4 (by decide)).2
  have t5 := (unhide HN).tab 5 _ rfl
  have z5 := (unhide HV).tab 5 _ rfl
  have fz5 := ((unhide HV).room 5 (by decide)).2
  have t6 := (unhide HN).tab 6 _ rfl
  have z6 := (unhide HV).tab 6 _ rfl
  have fz6 := ((unhide HV).room 6 (by decide)).2
  have t7 := (unhide HN).tab 7 _ rfl
  have z7 := (unhide HV).tab 7 _ rfl
  have fz7 := ((unhide HV).room 7 (by decide)).2
  have t8 := (unhide HN).tab 8 _ rfl
  have z8 := (unhide HV).tab 8 _ rfl
  have fz8 := ((unhide HV).room 8 (by decide)).2
  have pf := ((unhide HN).room 4 (by decide)).2
  dsimp only [hd0] at t0 t1 t2 t3 t4 t8
  go_wp2_with fail
  have fA : Fr [W.heap.size + 1] w1 (w1.setCell ⟨W.heap.size + 1, 4, none⟩ (.int .u64 y1)) := (Fr.refl _ _).place _ _
  have HR := hide ((unhide HR).fr fA (unhide HO) (by simp))
  have HF := hide ((unhide HF).set 4 (Or.inr (by omega) : W.heap.size + 1 ∈ [c, rb] ∨ W.heap.size ≤ W.heap.size + 1) (.int .u64 y1))
  refine bodyPost_ret (v := .agg #[.int .i64 op, .int .u8 0, .int .u32 0, .int .u32 0, .int .u64 y1, .slice none 0 0, .slice none 0 0, .slice none 0 0, .bool false]) (by simp [results, Tryd.results36, go_sem, z0, z1, z2, z3, z4, z5, z6, z7, z8]) rfl ?_
  have fZ := fun w => fr_set9 w W.heap.size (.int .i64 op) (.int .u8 0) (.int .u32 0) (.int .u32 0) (.int .u64 y1) (.slice none 0 0) (.slice none 0 0) (.slice none 0 0) (.bool false)
  refine ⟨⟨op, 0, 0, 0, y1, [], false⟩, _, _, _, none, 0, 0, none, 0, 0, (⟨op, 0, 0, 0, y1, [], false⟩, .nil, .nil), _, _, rfl, ?_, fun _ => ⟨rfl, slc_nil _ _, fov_nil _ _, fov_nil _ _⟩, (unhide HR).fr (fZ _) (unhide HO) (by simp), (unhide HF).thenL (fZ _) (by simp)⟩
  rw [show rRest (sq sat) deep op = bd inz (rS 64) fun x => giv ({ hd0 op with bits := x }, .nil, .nil) by unfold rRest rPlain; rw [unhide HV0]; rfl]
  exact (unhide HD1).bd (Rd.giv _ _ _ _)
set_option maxHeartbeats 8000000 in
set_option maxRecDepth 100000 in
theorem instr_10 {n : Nat} {op : Int} {c rb : Nat} {a : Option Addr} {len cap : Nat} {xs : List Int} {sat : Bool} {deep k : Nat} {e : Int} {W : World} (HI : Hid (PSeq c rb a len cap xs sat n)) (h : Rs c rb a len cap xs sat deep k e W) (hk : e = 0 → len - k < n) (hb : imI op = 1 → deep < 64) (ho : op ≤ 9223372036854775807) (hv : imI op = 10) : InstrP c rb a len cap xs sat deep k e op W := by
  have HR := hide h
  have HO : Hid (Old W.heap.size c rb a len) := hide (h.old (Nat.le_refl W.heap.size))
  have HIm := hide (imm_any op ho)
  rw [hv] at HIm
  have _ := HI
  have _ := hk
  have _ := hb
  have HV0 := hide hv
  clear h hk hb hv
  unfold InstrP
  go_enter Tryd.func36, Tryd.ntmps36
  go_wp2_with fail
  have hb := below2 W (.cells #[.int .i64 0, .int .u8 0, .int .u32 0, .int .u32 0, .int .u64 0, .slice none 0 0, .slice none 0 0, .slice none 0 0, .bool false] 50) (.cells #[.int .i64 op, .int .u8 0, .int .u32 0, .int .u32 0, .int .u64 0, .slice none 0 0, .slice none 0 0, .slice none 0 0, .bool false] 50)
  have HR := hide ((unhide HR).bel hb)
  have HF := hide (Fr.of hb [c, rb])
  have HN := hide (nv_1 (W := W) op)
  have HV := hide (nv_0 (W := W) (.cells #[.int .i64 op, .int .u8 0, .int .u32 0, .int .u32 0, .int .u64 0, .slice none 0 0, .slice none 0 0, .slice none 0 0, .bool false] 50))
  generalize (W.alloc (.cells #[.int .i64 0, .int .u8 0, .int .u32 0, .int .u32 0, .int .u64 0, .slice none 0 0, .slice none 0 0, .slice none 0 0, .bool false] 50)).alloc (.cells #[.int .i64 op, .int .u8 0, .int .u32 0, .int .u32 0, .int .u64 0, .slice none 0 0, .slice none 0 0, .slice none 0 0, .bool false] 50) = wr at *
  refine ((unhide HIm) _ (unhide HR).var).mono ?_
  rintro _ w0 ⟨rfl, hb1⟩
  have HR := hide ((unhide HR).bel hb1)
  have HF := hide ((unhide HF).bel hb1)
  have HN := hide ((unhide HN).fr (Fr.of hb1 []) (by simp))
  have HV := hide ((unhide HV).fr (Fr.of hb1 []) (by simp))
  clear hb hb1 HIm
  have h0 := (unhide HR).rdr.1
  go_wp2_with fail
  clear h0
  have HX := hide (fixed4_any (unhide HR).cur)
  have HD1 : Hid (Rd (rL 4) xs k e (lift (rL 4) 0 xs k e).1 (lift (rL 4) 0 xs k e).2.1 (lift (rL 4) 0 xs k e).2.2) := hide Rd.lift
  generalize lift (rL 4) 0 xs k e = L at *
  obtain ⟨y1, k1, e1⟩ := L
  dsimp only at *
  refine (unhide HX).mono ?_
  rintro _ w1 ⟨rfl, hC, hF⟩
  have HR := hide ((unhide HR).step hF hC)
  have HF := hide ((unhide HF).trans (fr_c hF))
  have HN := hide ((unhide HN).fr hF (by have := (unhide HO).c; simp; omega))
  have HV := hide ((unhide HV).fr hF (by have := (unhide HO).c; simp; omega))
  clear hC hF HX
  have t0 := (unhide HN).tab 0 _ rfl
  have z0 := (unhide HV).tab 0 _ rfl
  have fz0 := ((unhide HV).room 0 (by decide)).2
  have t1 := (unhide HN).tab 1 _ rfl
  have z1 := (unhide HV).tab 1 _ rfl
  have fz1 := ((unhide HV).room 1 (by decide)).2
  have t2 := (unhide HN).tab 2 _ rfl
  have z2 := (unhide HV).tab 2 _ rfl
  have fz2 := ((unhide HV).room 2 (by decide)).2
  have t3 := (unhide HN).tab 3 _ rfl
  have z3 := (unhide HV).tab 3 _ rfl
  have fz3 := ((unhide HV).room 3 (by decide)).2
  have t4 := (unhide HN).tab 4 _ rfl
  have z4 := (unhide HV).tab 4 _ rfl
  have fz4 := ((unhide HV).room 4 (by decide)).2
  have t5 := (unhide HN).tab 5 _ rfl
  have z5 := (unhide HV).tab 5 _ rfl
  have fz5 := ((unhide HV).room 5 (by decide)).2
  have t6 := (unhide HN).tab 6 _ rfl
  have z6 := (unhide HV).tab 6 _ rfl
  have fz6 := ((unhide HV).room 6 (by decide)).2
  have t7 := (unhide HN).tab 7 _ rfl
  have z7 := (unhide HV).tab 7 _ rfl
  have fz7 := ((unhide HV).room 7 (by decide)).2
  have t8 := (unhide HN).tab 8 _ rfl
  have z8 := (unhide HV).tab 8 _ rfl
  have fz8 := ((unhide HV).room 8 (by decide)).2
  have pf := ((unhide HN).room 4 (by decide)).2
  dsimp only [hd0] at t0 t1 t2 t3 t4 t8
  go_wp2_with fail
  have fA : Fr [W.heap.size + 1] w1 (w1.setCell ⟨W.heap.size + 1, 4, none⟩ (.int .u64 y1)) := (Fr.refl _ _).place _ _
  have HR := hide ((unhide HR).fr fA (unhide HO) (by simp))
  have HF := hide ((unhide HF).set 4 (Or.inr (by omega) : W.heap.size + 1 ∈ [c, rb] ∨ W.heap.size ≤ W.heap.size + 1) (.int .u64 y1))
  refine bodyPost_ret (v := .agg #[.int .i64 op, .int .u8 0, .int .u32 0, .int .u32 0, .int .u64 y1, .slice none 0 0, .slice none 0 0, .slice none 0 0, .bool false]) (by simp [results, Tryd.results36, go_sem, z0, z1, z2, z3, z4, z5, z6, z7, z8]) rfl ?_
  have fZ := fun w => fr_set9 w W.heap.size (.int .i64 op) (.int .u8 0) (.int .u32 0) (.int .u32 0) (.int .u64 y1) (.slice none 0 0) (.slice none 0 0) (.slice none 0 0) (.bool false)
  refine ⟨⟨op, 0, 0, 0, y1, [], false⟩, _, _, _, none, 0, 0, none, 0, 0, (⟨op, 0, 0, 0, y1, [], false⟩, .nil, .nil), _, _, rfl, ?_, fun _ => ⟨rfl, slc_nil _ _, fov_nil _ _, fov_nil _ _⟩, (unhide HR).fr (fZ _) (unhide HO) (by simp), (unhide HF).thenL (fZ _) (by simp)⟩
  rw [show rRest (sq sat) deep op = bd inz (rL 4) fun x => giv ({ hd0 op with bits := x }, .nil, .nil) by unfold rRest rPlain; rw [unhide HV0]; rfl]
  exact (unhide HD1).bd (Rd.giv _ _ _ _)
set_option maxHeartbeats 8000000 in
set_option maxRecDepth 100000 in
theorem instr_11 {n : Nat} {op : Int} {c rb : Nat} {a : Option Addr} {len cap : Nat} {xs : List Int} {sat : Bool} {deep k : Nat} {e : Int} {W : World} (HI : Hid (PSeq c rb a len cap xs sat n)) (h : Rs c rb a len cap xs sat deep k e W) (hk : e = 0 → len - k < n) (hb : imI op = 1 → deep < 64) (ho : op ≤ 9223372036854775807) (hv : imI op = 11) : InstrP c rb a len cap xs sat deep k e op W := by
  have HR := hide h
  have HO : Hid (Old W.heap.size c rb a len) := hide (h.old (Nat.le_refl W.heap.size))
  have HIm := hide (imm_any op ho)
  rw [hv] at HIm
  have _ := HI
  have _ := hk
  have _ := hb
  have HV0 := hide hv
  clear h hk hb hv
  unfold InstrP
  go_enter Tryd.func36, Tryd.ntmps36
  go_wp2_with fail
  have hb := below2 W (.cells #[.int .i64 0, .int .u8 0, .int .u32 0, .int .u32 0, .int .u64 0, .slice none 0 0, .slice none 0 0, .slice none 0 0, .bool false] 50) (.cells #[.int .i64 op, .int .u8 0, .int .u32 0, .int .u32 0, .int .u64 0, .slice none 0 0, .slice none 0 0, .slice none 0 0, .bool false] 50)
  have HR := hide ((unhide HR).bel hb)
  have HF := hide (Fr.of hb [c, rb])
  have HN := hide (nv_1 (W := W) op)
  have HV := hide (nv_0 (W := W) (.cells #[.int .i64 op, .int .u8 0, .int .u32 0, .int .u32 0, .int .u64 0, .slice none 0 0, .slice none 0 0, .slice none 0 0, .bool false] 50))
  generalize (W.alloc (.cells #[.int .i64 0, .int .u8 0, .int .u32 0, .int .u32 0, .int .u64 0, .slice none 0 0, .slice none 0 0, .slice none 0 0, .bool false] 50)).alloc (.cells #[.int .i64 op, .int .u8 0, .int .u32 0, .int .u32 0, .int .u64 0, .slice none 0 0, .slice none 0 0, .slice none 0 0, .bool false] 50) = wr at *
  refine ((unhide HIm) _ (unhide HR).var).mono ?_
  rintro _ w0 ⟨rfl, hb1⟩
  have HR := hide ((unhide HR).bel hb1)
  have HF := hide ((unhide HF).bel hb1)
  have HN := hide ((unhide HN).fr (Fr.of hb1 []) (by simp))
  have HV := hide ((unhide HV).fr (Fr.of hb1 []) (by simp))
  clear hb hb1 HIm
  have h0 := (unhide HR).rdr.1
  go_wp2_with fail
  clear h0
  have HX := hide (fixed8_any (unhide HR).cur)
  have HD1 : Hid (Rd (rL 8) xs k e (lift (rL 8) 0 xs k e).1 (lift (rL 8) 0 xs k e).2.1 (lift (rL 8) 0 xs k e).2.2) := hide Rd.lift
  generalize lift (rL 8) 0 xs k e = L at *
  obtain ⟨y1, k1, e1⟩ := L
  dsimp only at *
  refine (unhide HX).mono ?_
  rintro _ w1 ⟨rfl, hC, hF⟩
  have HR := hide ((unhide HR).step hF hC)
  have HF := hide ((unhide HF).trans (fr_c hF))
  have HN := hide ((unhide HN).fr hF (by have := (unhide HO).c; simp; omega))
  have HV := hide ((unhide HV).fr hF (by have := (unhide HO).c; simp; omega))
  clear hC hF HX
  have t0 := (unhide HN).tab 0 _ rfl
  have z0 := (unhide HV).tab 0 _ rfl
  have fz0 := ((unhide HV).room 0 (by decide)).2
  have t1 := (unhide HN).tab 1 _ rfl
  have z1 := (unhide HV).tab 1 _ rfl
  have fz1 := ((unhide HV).room 1 (by decide)).2
  have t2 := (unhide HN).tab 2 _ rfl
  have z2 := (unhide HV).tab 2 _ rfl
  have fz2 := ((unhide HV).room 2 (by decide)).2
  have t3 := (unhide HN).tab 3 _ rfl
  have z3 := (unhide HV).tab 3 _ rfl
  have fz3 := ((unhide HV).room 3 (by decide)).2
  have t4 := (unhide HN).tab 4 _ rfl
  have z4 := (unhide HV).tab 4 _ rfl
  have fz4 := ((unhide HV).room 4 (by decide)).2
  have t5 := (unhide HN).tab 5 _ rfl
  have z5 := (unhide HV).tab 5 _ rfl
  have fz5 := ((unhide HV).room 5 (by decide)).2
  have t6 := (unhide HN).tab 6 _ rfl
  have z6 := (unhide HV).tab 6 _ rfl
  have fz6 := ((unhide HV).room 6 (by decide)).2
  have t7 := (unhide HN).tab 7 _ rfl
  have z7 := (unhide HV).tab 7 _ rfl
  have fz7 := ((unhide HV).room 7 (by decide)).2
  have t8 := (unhide HN).tab 8 _ rfl
  have z8 := (unhide HV).tab 8 _ rfl
  have fz8 := ((unhide HV).room 8 (by decide)).2
  have pf := ((unhide HN).room 4 (by decide)).2
  dsimp only [hd0] at t0 t1 t2 t3 t4 t8
  go_wp2_with fail
  have fA : Fr [W.heap.size + 1] w1 (w1.setCell ⟨W.heap.size + 1, 4, none⟩ (.int .u64 y1)) := (Fr.refl _ _).place _ _
  have HR := hide ((unhide HR).fr fA (unhide HO) (by simp))
  have HF := hide ((unhide HF).set 4 (Or.inr (by omega) : W.heap.size + 1 ∈ [c, rb] ∨ W.heap.size ≤ W.heap.size + 1) (.int .u64 y1))
  refine bodyPost_ret (v := .agg #[.int .i64 op, .int .u8 0, .int .u32 0, .int .u32 0, .int .u64 y1, .slice none 0 0, .slice none 0 0, .slice none 0 0, .bool false]) (by simp [results, Tryd.results36, go_sem, z0, z1, z2, z3, z4, z5, z6, z7, z8]) rfl ?_
  have fZ := fun w => fr_set9 w W.heap.size (.int .i64 op) (.int .u8 0) (.int .u32 0) (.int .u32 0) (.int .u64 y1) (.slice none 0 0) (.slice none 0 0) (.slice none 0 0) (.bool false)
  refine ⟨⟨op, 0, 0, 0, y1, [], false⟩, _, _, _, none, 0, 0, none, 0, 0, (⟨op, 0, 0, 0, y1, [], false⟩, .nil, .nil), _, _, rfl, ?_, fun _ => ⟨rfl, slc_nil _ _, fov_nil _ _, fov_nil _ _⟩, (unhide HR).fr (fZ _) (unhide HO) (by simp), (unhide HF).thenL (fZ _) (by simp)⟩
  rw [show rRest (sq sat) deep op = bd inz (rL 8) fun x => giv ({ hd0 op with bits := x }, .nil, .nil) by unfold rRest rPlain; rw [unhide HV0]; rfl]
  exact (unhide HD1).bd (Rd.giv _ _ _ _)
theorem instr_any {n : Nat} {op : Int} {c rb : Nat} {a : Option Addr} {len cap : Nat} {xs : List Int} {sat : Bool} {deep k : Nat} {e : Int} {W : World} (HI : Hid (PSeq c rb a len cap xs sat n)) (h : Rs c rb a len cap xs sat deep k e W) (hk : e = 0 → len - k < n) (hb : imI op = 1 → deep < 64) (ho : op ≤ 9223372036854775807) : InstrP c rb a len cap xs sat deep k e op W := by
  by_cases h1 : imI op = 1
  · exact instr_1 HI h hk hb ho h1
  by_cases h2 : imI op = 2
  · exact instr_2 HI h hk hb ho h2
  by_cases h3 : imI op = 3
  · exact instr_3 HI h hk hb ho h3
  by_cases h4 : imI op = 4
  · exact instr_4 HI h hk hb ho h4
  by_cases h5 : imI op = 5
  · exact instr_5 HI h hk hb ho h5
  by_cases h6 : imI op = 6
  · exact instr_6 HI h hk hb ho h6
  by_cases h7 : imI op = 7
  · exact instr_7 HI h hk hb ho h7
  by_cases h8 : imI op = 8
  · exact instr_8 HI h hk hb ho h8
  by_cases h9 : imI op = 9
  · exact instr_9 HI h hk hb ho h9
  by_cases h10 : imI op = 10
  · exact instr_10 HI h hk hb ho h10
  by_cases h11 : imI op = 11
  · exact instr_11 HI h hk hb ho h11
  refine instr_0 HI h hk hb ho (fun j j1 j2 hj => ?_)
  have : j = 1 ∨ j = 2 ∨ j = 3 ∨ j = 4 ∨ j = 5 ∨ j = 6 ∨ j = 7 ∨ j = 8 ∨ j = 9 ∨ j = 10 ∨ j = 11 := by omega
  rcases this with rfl | rfl | rfl | rfl | rfl | rfl | rfl | rfl | rfl | rfl | rfl
  all_goals contradiction
end Go.Proofs.YtalahdkgigcpfaaDoor
namespace Go.Proofs.YtalahdkgigcpfaaDoor
open Go.RowKit

/-- How much there is still to read. -/
def togo (c len : Nat) (w : World) : Nat := 2 * (len - (intOf ((w.cell? ⟨c, 1, none⟩).getD undef)).toNat) + (if intOf ((w.cell? ⟨c, 2, none⟩).getD undef) = 0 then 1 else 0)
theorem togo_cu {c : Nat} {a : Option Addr} {len cap k : Nat} {e : Int} {w : World} (h : Cu c a len cap k e w) : togo c len w = 2 * (len - k) + (if e = 0 then 1 else 0) := by
  unfold togo
  rw [h.2.1, h.2.2.1]
  show 2 * (len - ((k : Int)).toNat) + (if e = 0 then 1 else 0) = _
  rw [Int.toNat_natCast]
theorem iIn : Tryd.prog.info? 50 = some ((Tryd.prog.info? 50).getD default) := by kernel_rfl
theorem size50 : ((Tryd.prog.info? 50).getD default).size = 9 := by kernel_rfl
theorem bytes50 : ((Tryd.prog.info? 50).getD default).bytes ≤ 1000 := Nat.le_of_ble_eq_true (by kernel_rfl)
theorem zero50 : ((Tryd.prog.info? 50).getD default).zero = some (.agg #[.int .i64 0, .int .u8 0, .int .u32 0, .int .u32 0, .int .u64 0, .slice none 0 0, .slice none 0 0, .slice none 0 0, .bool false]) := by kernel_rfl
/-- An opcode that was read is no block's in sixty-four blocks. -/
theorem rOp_deep {sat may : Bool} {deep : Nat} {l : List Int} (h : (rOp sat may deep l).2.2 = 0) : (imI (rOp sat may deep l).1 = 1 → deep ≠ 64) ∧ ((rOp sat may deep l).1 = 5 → may = true) ∧ (rOp sat may deep l).1 ≤ 9223372036854775807 ∨ ¬ Byt l := by
  by_cases hB : Byt l
  · left
    cases l with
    | nil => exact absurd (show (100 : Int) = 0 from h) (by decide)
    | cons b r =>
      have hb := hB b (by simp)
      rw [rOp_cons] at h ⊢
      by_cases q1 : (b == 252 && sat) = true
      · rw [if_pos q1] at h ⊢
        have h1 : (rB (b :: r)).2.2 = 0 := rfl
        unfold rFc at h ⊢
        rw [bd_ok h1] at h ⊢
        have h2 : (rU 32 r).2.2 = 0 := by
          apply Decidable.byContradiction
          intro hn
          rw [show (b :: r).drop (rB (b :: r)).2.1 = r from rfl, bd_no hn] at h
          exact hn h
        rw [show (b :: r).drop (rB (b :: r)).2.1 = r from rfl, bd_ok h2] at h ⊢
        generalize hn : (rU 32 r).1 = n at h ⊢
        cases hd : decide (n ≤ 7) with
        | false => rw [hd] at h; exact absurd (show (108 : Int) = 0 from h) (by decide)
        | true =>
          show (imI (64512 + n) = 1 → deep ≠ 64) ∧ (64512 + n = 5 → may = true) ∧ 64512 + n ≤ 9223372036854775807
          have h0 : 0 ≤ n := by
            have := (rdU_lt r 32 (fun x hx => hB x (by simp [hx]))).1
            rw [← hn]
            exact Int.emod_nonneg _ (by decide)
          have h7 : n ≤ 7 := by simpa using hd
          refine ⟨fun hi => ?_, fun hi => by omega, by omega⟩
          have : n = 0 ∨ n = 1 ∨ n = 2 ∨ n = 3 ∨ n = 4 ∨ n = 5 ∨ n = 6 ∨ n = 7 := by omega
          rcases this with rfl | rfl | rfl | rfl | rfl | rfl | rfl | rfl <;> exact absurd hi (by decide)
      · rw [if_neg q1] at h ⊢
        by_cases q2 : (!imB b || (b == 5 && !may)) = true
        · rw [if_pos q2] at h; exact absurd (show (108 : Int) = 0 from h) (by decide)
        · rw [if_neg q2] at h ⊢
          by_cases q3 : imI b = 1 ∧ deep = 64
          · rw [if_pos q3] at h; exact absurd (show (3 : Int) = 0 from h) (by decide)
          · rw [if_neg q3]
            refine ⟨fun h1 h2 => q3 ⟨h1, h2⟩, fun h5 => ?_, by show b ≤ _; omega⟩
            have h5' : b = 5 := h5
            subst h5'
            cases may
            · exfalso; apply q2; simp
            · rfl
  · exact .inr hB
theorem rd_deep {sat may : Bool} {deep k k' : Nat} {xs : List Int} {y e : Int} (hB : Byt xs) (h : Rd (rOp sat may deep) xs k e y k' 0) : (imI y = 1 → deep ≠ 64) ∧ (y = 5 → may = true) ∧ y ≤ 9223372036854775807 ∧ k + 1 ≤ k' := by
  have he := h.zero rfl
  obtain ⟨a1, a2⟩ := h.live he
  have hp := rOp_pos a2.symm
  rcases rOp_deep a2.symm with h1 | h1
  · rw [← h.val he rfl] at h1
    exact ⟨h1.1, h1.2.1, h1.2.2, by omega⟩
  · exact absurd (byt_dropS hB k) h1
theorem sq_end {sat may : Bool} {deep k k1 : Nat} {xs : List Int} {y e e1 : Int} (h : Rd (rOp sat may deep) xs k e y k1 e1) (hy : e1 ≠ 0 ∨ y = 5 ∨ y = 11) : Rd (sq sat deep may) xs k e (.nil, y == 5) k1 e1 := by
  refine Rd.of_eq (Rd.bd (z := (.nil, false)) (g := fun op => if op = 5 ∨ op = 11 then giv (.nil, op == 5) else bd (.nil, false) (rRest (sq sat) deep op) fun i => bd (.nil, false) (sq sat deep may) fun s => giv (.cons i.1 i.2.1 i.2.2 s.1, s.2)) h ?_) (sq_eq _ _ _ _)
  by_cases he : e1 = 0
  · rw [if_pos (hy.resolve_left (fun q => q he))]
    exact Rd.giv _ _ _ _
  · exact Rd.err _ he
theorem sq_more {sat may : Bool} {deep k k1 k2 k3 : Nat} {xs : List Int} {y e e1 e2 e3 : Int} {i : In} {s : Fo × Bool} (h : Rd (rOp sat may deep) xs k e y k1 e1) (hy : ¬ (y = 5 ∨ y = 11)) (hi : Rd (rRest (sq sat) deep y) xs k1 e1 i k2 e2) (hs : Rd (sq sat deep may) xs k2 e2 s k3 e3) :
    Rd (sq sat deep may) xs k e (.cons i.1 i.2.1 i.2.2 s.1, s.2) k3 e3 := by
  refine Rd.of_eq (Rd.bd (z := (.nil, false)) (g := fun op => if op = 5 ∨ op = 11 then giv (.nil, op == 5) else bd (.nil, false) (rRest (sq sat) deep op) fun i => bd (.nil, false) (sq sat deep may) fun s => giv (.cons i.1 i.2.1 i.2.2 s.1, s.2)) h ?_) (sq_eq _ _ _ _)
  rw [if_neg hy]
  exact hi.bd (hs.bd (Rd.giv _ _ _ _))
set_option maxHeartbeats 8000000 in
set_option maxRecDepth 100000 in
theorem seq_step {n : Nat} {may : Bool} {c rb : Nat} {a : Option Addr} {len cap : Nat} {xs : List Int} {sat : Bool} {deep k : Nat} {e : Int} {W : World} (HI : Hid (e = 0 → PSeq c rb a len cap xs sat n)) (hd : deep ≤ 64) (hn : e = 0 → len - k < n + 1) (h : Rs c rb a len cap xs sat deep k e W) :
  Calls Tryd.prog 25 #[.pointer (some ⟨rb, 0, none⟩), .bool may] W fun r W' => ∃ p q s m T t k' e', r = .returned (.tuple #[.slice p q s, .int .i64 m]) ∧ Rd (sq sat deep may) xs k e (T, t) k' e' ∧ (e' = 0 → Fov W' (fun b => W.heap.size ≤ b) T (.slice p q s) ∧ m = if t then 5 else 11) ∧ Rs c rb a len cap xs sat deep k' e' W' ∧ Fr [c, rb] W W' := by
  have HR0 := hide h
  have HO : Hid (Old W.heap.size c rb a len) := hide (h.old (Nat.le_refl W.heap.size))
  have HN := hide hn
  have HD := hide hd
  have hl6 := h.cur.2.2.2.2.2
  clear h hn hd
  go_enter Tryd.func25, Tryd.ntmps25
  go_wp2_with fail
  go_loopw [4] (fun v4 wr => ∃ (T : Fo) (cs : List Value) (k1 : Nat) (e1 : Int), Rw 50 W.heap.size v4 T cs e1 wr ∧ Rs c rb a len cap xs sat deep k1 e1 wr ∧ Fr [c, rb] W wr ∧ (e1 = 0 → e = 0 ∧ T.len + k ≤ k1) ∧ T.len ≤ len + 1 ∧ ∀ s k' e', Rd (sq sat deep may) xs k1 e1 s k' e' → Rd (sq sat deep may) xs k e (T.app s.1, s.2) k' e') (fun _ wr => togo c len wr)
  case atStart => exact ⟨.nil, [], k, e, rw_nil _ _ _ _, unhide HR0, Fr.refl _ _, fun q => ⟨q, by simp [Fo.len]⟩, by simp [Fo.len], fun s k' e' q => q⟩
  case round =>
    obtain ⟨T, cs, k1, e1, hW, hR, hF, hM, hTl, hK⟩ := hrel
    have hgo := togo_cu hR.cur.1
    have HW := hide hW
    have HF := hide hF
    have HK := hide hK
    have HM := hide hM
    have HG := hide hgo
    have HTL := hide hTl
    go_wp2_with fail
    have HC := hide (unhide HO).c
    have HRb := hide (unhide HO).r
    have HBy := hide hR.byt
    refine (op_any hR).mono ?_
    rintro _ w1 ⟨y, k2, e2, rfl, hD, hR, hF1⟩
    have HW : Hid (Rw 50 W.heap.size u4 T cs e2 w1) := hide ((unhide HW).fr (fr_c (rb := rb) hF1) (by have := unhide HC; have := unhide HRb; simp; omega) (fun q => hD.zero q))
    have HF := hide ((unhide HF).trans (fr_c hF1))
    have HDo := hide hD
    have HR := hide hR
    clear hW hD hF hF1 hM hTl hK hgo
    go_wp2_with fail
    refine (rfailed_any hR).mono ?_
    rintro _ w2 ⟨rfl, hww⟩
    obtain rfl : w1 = w2 := hww.symm
    clear hww
    by_cases he : e2 = 0
    · have he' : (e2 != 0) = false := by simp [he]
      by_cases h5 : y = 5
      · have h5' : (y == 5) = true := by simp [h5]
        clear hR
        go_wp2_with fail
        obtain ⟨p, s, rfl⟩ := (unhide HW).slice
        go_ret2
        have hk := unhide HK _ _ _ (sq_end (unhide HDo) (.inr (.inl h5)))
        rw [Fo.app_nil] at hk
        exact ⟨p, T.len, s, _, T, y == 5, _, _, rfl, hk, fun q => ⟨(unhide HW).fov q, by rw [h5']; rfl⟩, unhide HR, unhide HF⟩
      · have h5' : (y == 5) = false := by simp [h5]
        by_cases h11 : y = 11
        · have h11' : (y == 11) = true := by simp [h11]
          clear hR
          go_wp2_with fail
          obtain ⟨p, s, rfl⟩ := (unhide HW).slice
          go_ret2
          have hk := unhide HK _ _ _ (sq_end (unhide HDo) (.inr (.inr h11)))
          rw [Fo.app_nil] at hk
          exact ⟨p, T.len, s, _, T, y == 5, _, _, rfl, hk, fun q => ⟨(unhide HW).fov q, by rw [h5']; rfl⟩, unhide HR, unhide HF⟩
        · have h11' : (y == 11) = false := by simp [h11]
          subst he
          obtain ⟨d1, d2, d3, d4⟩ := rd_deep (unhide HBy) (unhide HDo)
          have hk2 := hR.cur.2.2.2.2.1
          obtain ⟨m1, m2⟩ := unhide HM ((unhide HDo).zero rfl)
          have hI : InstrP c rb a len cap xs sat deep k2 0 y w1 := instr_any (hide (unhide HI m1)) hR (fun _ => by have := unhide HN m1; omega) (fun q => by have := d1 q; have := unhide HD; omega) d3
          unfold InstrP at hI
          clear hR
          go_wp2_with fail
          refine hI.mono ?_
          clear hI
          rintro _ w3 ⟨h', l1, l2, l3, p1, q1, s1, p2, q2, s2, i, k3, e3, rfl, hDi, hV, hR3, hF3⟩
          obtain ⟨p, s, w4, hrun, hW4, hFr, ll, hll, hlb⟩ := Rw.app (t := 29) (ty := 50) Tryd.underlying29 iIn zero50 size50 rfl bytes50 rfl (unhide HW) ⟨[c, rb], hF3, by have := unhide HC; have := unhide HRb; simp; omega⟩ (unhide HF).size (by omega) (hd := h') (t' := i.2.1) (e' := i.2.2) (lv := .slice l1 l2 l3) (vt := .slice p1 q1 s1) (ve := .slice p2 q2 s2) (e2 := e3) rfl rfl rfl (fun _ => rfl) (fun q => (hV q).2) rfl
          have HR := hide (hR3.fr hll (unhide HO) hlb)
          have HF := hide (hFr _ _ ((unhide HF).trans hF3) (Nat.le_refl _))
          have HX := hide hrun
          have HW := hide hW4
          have HDi := hide hDi
          have HEq := hide (fun q => (hV q).1)
          have hk3 := hR3.cur.2.2.2.2.1
          have hu3 := hDi.up
          clear hrun hW4 hFr hll hlb hDi hV hR3 hF3
          go_wp2_with (at_builtin; refine wpList_appT (by rfl) rfl rfl (unhide HX) ?_)
          refine ⟨⟨T.app (.cons i.1 i.2.1 i.2.2 .nil), cs ++ hcells h' (.slice l1 l2 l3) (.slice p1 q1 s1) (.slice p2 q2 s2), k3, e3, ?_, unhide HR, unhide HF, fun q => ⟨m1, ?_⟩, ?_, fun s k' e' hs => ?_⟩, ?_⟩
          · refine ⟨(unhide HW).own.1 |> fun _ => ?_, fun q => ?_⟩
            · rw [Fo.len_app]; have := (unhide HW).own; rw [Fo.len_app] at this; exact this
            · rw [unhide HEq q]; exact (unhide HW).enc q
          · rw [Fo.len_app]; show T.len + 1 + k ≤ k3; omega
          · rw [Fo.len_app]; show T.len + 1 ≤ len + 1; omega
          · rw [Fo.app_app]
            exact unhide HK _ _ _ (sq_more (unhide HDo) (by omega) (unhide HDi) hs)
          · rw [unhide HG, togo_cu (unhide HR).cur.1, if_pos ((unhide HDo).zero rfl)]
            split <;> omega
    · have he' : (e2 != 0) = true := by simp [he]
      clear hR
      go_wp2_with fail
      obtain ⟨p, s, rfl⟩ := (unhide HW).slice
      go_ret2
      have hk := unhide HK _ _ _ (sq_end (unhide HDo) (.inl he))
      rw [Fo.app_nil] at hk
      exact ⟨p, T.len, s, _, T, y == 5, _, _, rfl, hk, fun q => absurd q he, unhide HR, unhide HF⟩
theorem seq_any {c rb : Nat} {a : Option Addr} {len cap : Nat} {xs : List Int} {sat : Bool} : ∀ n, PSeq c rb a len cap xs sat n
  | 0 => fun _ _ _ _ _ hd hn h => seq_step (n := 0) (hide fun q => absurd (hn q) (Nat.not_lt_zero _)) hd (fun q => by have := hn q; omega) h
  | n + 1 => fun _ _ _ _ _ hd hn h => seq_step (hide fun _ => seq_any n) hd hn h
end Go.Proofs.YtalahdkgigcpfaaDoor
namespace Go.Proofs.YtalahdkgigcpfaaDoor
open Go.RowKit

theorem bd_inv {A B : Type} {z : B} {f : Rr A} {g : A → Rr B} {l : List Int} (h : (bd z f g l).2.2 = 0) : (f l).2.2 = 0 ∧ (g (f l).1 (l.drop (f l).2.1)).2.2 = 0 ∧ bd z f g l = ((g (f l).1 (l.drop (f l).2.1)).1, (f l).2.1 + (g (f l).1 (l.drop (f l).2.1)).2.1, 0) := by
  by_cases h1 : (f l).2.2 = 0
  · rw [bd_ok h1] at h ⊢
    exact ⟨h1, h, by simp only at h; rw [h]⟩
  · rw [bd_no h1] at h
    exact absurd h h1
def Fo.dep : Fo → Nat
  | .nil => 0
  | .cons h t e r => max (if max t.dep e.dep > 0 ∨ t.len + e.len > 0 ∨ (2 ≤ h.op ∧ h.op ≤ 4) then max t.dep e.dep + 1 else max t.dep e.dep) r.dep
theorem Fo.dep_app : ∀ T U : Fo, (T.app U).dep = max T.dep U.dep
  | .nil, U => by simp [Fo.app, Fo.dep]
  | .cons h t e r, U => by rw [Fo.app, Fo.dep, Fo.dep, r.dep_app, Nat.max_assoc]
theorem repU_len : ∀ n l, (repU n l).2.2 = 0 → (repU n l).1.length = n
  | 0, _, _ => rfl
  | n + 1, l, h => by
    unfold repU at h ⊢
    obtain ⟨h1, h2, h3⟩ := bd_inv h
    rw [h3]
    obtain ⟨g1, g2, g3⟩ := bd_inv h2
    rw [g3]
    show (_ :: _).length = n + 1
    rw [List.length_cons, repU_len n _ g1]
theorem rLab_len {l : List Int} (hB : Byt l) (h : (rLab l).2.2 = 0) : (rLab l).1.length ≤ 4096 := by
  unfold rLab at h ⊢
  obtain ⟨h1, h2, h3⟩ := bd_inv h
  rw [h3]
  show (repU _ _).1.length ≤ 4096
  rw [repU_len _ _ h2]
  have := (count_le hB 0 0).2
  rw [lift_0, List.drop_zero] at this
  have h' : (rCount l).1 ≤ 4096 := this
  omega
/-- No list is too long, for what was read. -/
def Lk : Fo → Prop
  | .nil => True
  | .cons h t e r => h.op ≤ 9223372036854775807 ∧ h.list.length ≤ 4096 ∧ Lk t ∧ Lk e ∧ Lk r
/-- What holds of instructions that were read. -/
structure Red (deep : Nat) (may : Bool) (l : List Int) (x : (Fo × Bool) × Nat × Int) : Prop where
  size : x.1.1.size + 1 ≤ x.2.1
  lk : Lk x.1.1
  dep : x.1.1.dep + deep ≤ 64
  last : may = false → x.1.2 = false ∧ l.getD (x.2.1 - 1) 0 = 11
/-- What holds of one that was read. -/
structure Rei (deep : Nat) (op : Int) (x : In × Nat × Int) : Prop where
  size : x.1.2.1.size + x.1.2.2.size ≤ x.2.1
  list : x.1.1.list.length ≤ 4096
  lk : Lk x.1.2.1 ∧ Lk x.1.2.2
  opq : x.1.1.op = op
  blk : imI op = 1 → x.1.2.1.dep + deep + 1 ≤ 64 ∧ x.1.2.2.dep + deep + 1 ≤ 64
  non : imI op ≠ 1 → x.1.2.1 = .nil ∧ x.1.2.2 = .nil
theorem plain_rei {deep : Nat} {op : Int} {l : List Int} (hB : Byt l) (hi : imI op ≠ 1) (h : (rPlain op l).2.2 = 0) : Rei deep op (rPlain op l) := by
  have base : ∀ (hd : Hd) (n : Nat), hd.list.length ≤ 4096 → hd.op = op → Rei deep op ((hd, .nil, .nil), n, 0) := fun hd n h1 h2 => ⟨Nat.zero_le _, h1, ⟨trivial, trivial⟩, h2, fun q => absurd q hi, fun _ => ⟨rfl, rfl⟩⟩
  unfold rPlain at h ⊢
  by_cases h1 : imI op = 2 ∨ imI op = 4
  · rw [if_pos h1] at h ⊢
    obtain ⟨_, _, g⟩ := bd_inv h
    rw [g]; exact base _ _ (Nat.zero_le _) rfl
  rw [if_neg h1] at h ⊢
  by_cases h2 : imI op = 3
  · rw [if_pos h2] at h ⊢
    obtain ⟨a1, a2, g⟩ := bd_inv h
    obtain ⟨_, _, g'⟩ := bd_inv a2
    rw [g, g']; exact base _ _ (rLab_len hB a1) rfl
  rw [if_neg h2] at h ⊢
  by_cases h3 : imI op = 5
  · rw [if_pos h3] at h ⊢
    obtain ⟨_, a2, g⟩ := bd_inv h
    obtain ⟨_, _, g'⟩ := bd_inv a2
    rw [g, g']; exact base _ _ (Nat.zero_le _) rfl
  rw [if_neg h3] at h ⊢
  by_cases h4 : imI op = 6
  · rw [if_pos h4] at h ⊢
    obtain ⟨_, a2, g⟩ := bd_inv h
    obtain ⟨_, _, g'⟩ := bd_inv a2
    rw [g, g']; exact base _ _ (Nat.zero_le _) rfl
  rw [if_neg h4] at h ⊢
  by_cases h5 : imI op = 7
  · rw [if_pos h5] at h ⊢
    obtain ⟨_, _, g⟩ := bd_inv h
    rw [g]; exact base _ _ (Nat.zero_le _) rfl
  rw [if_neg h5] at h ⊢
  by_cases h6 : imI op = 8
  · rw [if_pos h6] at h ⊢
    obtain ⟨_, _, g⟩ := bd_inv h
    rw [g]; exact base _ _ (Nat.zero_le _) rfl
  rw [if_neg h6] at h ⊢
  by_cases h7 : imI op = 9
  · rw [if_pos h7] at h ⊢
    obtain ⟨_, _, g⟩ := bd_inv h
    rw [g]; exact base _ _ (Nat.zero_le _) rfl
  rw [if_neg h7] at h ⊢
  by_cases h8 : imI op = 10
  · rw [if_pos h8] at h ⊢
    obtain ⟨_, _, g⟩ := bd_inv h
    rw [g]; exact base _ _ (Nat.zero_le _) rfl
  rw [if_neg h8] at h ⊢
  by_cases h9 : imI op = 11
  · rw [if_pos h9] at h ⊢
    obtain ⟨_, _, g⟩ := bd_inv h
    rw [g]; exact base _ _ (Nat.zero_le _) rfl
  rw [if_neg h9]; exact base _ _ (Nat.zero_le _) rfl
theorem rest_rei {sat : Bool} {deep : Nat} {op : Int} {l : List Int} (hB : Byt l) (hS : ∀ d m (l' : List Int), l'.length ≤ l.length → Byt l' → (sq sat d m l').2.2 = 0 → d ≤ 64 → Red d m l' (sq sat d m l')) (hd : deep ≤ 64) (hb : imI op = 1 → deep ≠ 64) (h : (rRest (sq sat) deep op l).2.2 = 0) : Rei deep op (rRest (sq sat) deep op l) := by
  unfold rRest at h ⊢
  by_cases h1 : imI op = 1
  · rw [if_pos h1] at h ⊢
    have hdp := hb h1
    unfold rBlk at h ⊢
    obtain ⟨a1, a2, g⟩ := bd_inv h
    rw [g]
    generalize hl1 : l.drop (rResults l).2.1 = l1 at *
    have hll : l1.length ≤ l.length := by rw [← hl1, List.length_drop]; omega
    obtain ⟨b1, b2, g'⟩ := bd_inv a2
    rw [g']
    have hB1 : Byt l1 := by rw [← hl1]; exact byt_dropS hB _
    have r1 := hS (deep + 1) (op == 4) l1 hll hB1 b1 (by omega)
    generalize hx : sq sat (deep + 1) (op == 4) l1 = x at *
    obtain ⟨⟨T, s⟩, n1, e1⟩ := x
    cases s with
    | true =>
      rw [if_pos rfl] at b2 ⊢
      obtain ⟨c1, c2, g''⟩ := bd_inv b2
      rw [g'']
      have r2 := hS (deep + 1) false (l1.drop n1) (by rw [List.length_drop]; omega) (byt_dropS hB1 n1) c1 (by omega)
      generalize sq sat (deep + 1) false (l1.drop n1) = x2 at *
      obtain ⟨⟨T2, s2⟩, n2, e2⟩ := x2
      have z1 := r1.size
      have z2 := r2.size
      have d1 := r1.dep
      have d2 := r2.dep
      simp only at z1 z2 d1 d2
      exact ⟨by show T.size + T2.size ≤ _ + (n1 + (n2 + 0)); omega, Nat.zero_le _, ⟨r1.lk, r2.lk⟩, rfl, fun _ => ⟨by show T.dep + deep + 1 ≤ 64; omega, by show T2.dep + deep + 1 ≤ 64; omega⟩, fun q => absurd h1 q⟩
    | false =>
      rw [if_neg (by simp)]
      have z1 := r1.size
      have d1 := r1.dep
      simp only at z1 d1
      exact ⟨by show T.size + 0 ≤ _ + (n1 + 0); omega, Nat.zero_le _, ⟨r1.lk, trivial⟩, rfl, fun _ => ⟨by show T.dep + deep + 1 ≤ 64; omega, by show 0 + deep + 1 ≤ 64; omega⟩, fun q => absurd h1 q⟩
  · rw [if_neg h1] at h ⊢
    exact plain_rei hB h1 h
theorem low_block {op : Int} (h : 2 ≤ op ∧ op ≤ 4) : imI op = 1 := by
  have : op = 2 ∨ op = 3 ∨ op = 4 := by omega
  rcases this with rfl | rfl | rfl <;> decide
theorem sq_red {sat : Bool} : ∀ (N : Nat) (l : List Int), l.length ≤ N → Byt l → ∀ (deep : Nat) (may : Bool), (sq sat deep may l).2.2 = 0 → deep ≤ 64 → Red deep may l (sq sat deep may l) := by
  intro N
  induction N with
  | zero =>
    intro l hl hB deep may h hd
    have : l = [] := List.eq_nil_of_length_eq_zero (by omega)
    subst this
    exact absurd (show (100 : Int) = 0 from h) (by decide)
  | succ N ih =>
    intro l hl hB deep may h hd
    rw [sq_eq] at h ⊢
    obtain ⟨a1, a2, g⟩ := bd_inv h
    rw [g]
    have hp := rOp_pos a1
    have hlen := (gq_Op sat may deep).len l
    rcases rOp_deep a1 with hdd | hdd
    · generalize hx : rOp sat may deep l = x at *
      obtain ⟨op, n1, e1⟩ := x
      simp only at a1 hp hlen hdd a2 ⊢
      have hB1 : Byt (l.drop n1) := byt_dropS hB n1
      by_cases hy : op = 5 ∨ op = 11
      · rw [if_pos hy]
        refine ⟨by show 0 + 1 ≤ n1 + 0; omega, trivial, by show 0 + deep ≤ 64; omega, fun hm => ?_⟩
        have h11 : op = 11 := by
          rcases hy with q | q
          · have := hdd.2.1 q; rw [hm] at this; cases this
          · exact q
        subst h11
        refine ⟨rfl, ?_⟩
        show l.getD (n1 + 0 - 1) 0 = 11
        cases l with
        | nil =>
          have : ((0 : Int), 0, (100 : Int)) = (11, n1, e1) := hx
          have q : (0 : Int) = 11 := congrArg Prod.fst this
          exact absurd q (by decide)
        | cons c r =>
          rw [rOp_cons] at hx
          split at hx
          · exfalso
            have h0 : (rFc (c :: r)).2.2 = 0 := by rw [hx]; exact a1
            have h1 : (rFc (c :: r)).1 = 11 := by rw [hx]
            unfold rFc at h0 h1
            obtain ⟨_, g2, g3⟩ := bd_inv h0
            rw [g3] at h1
            obtain ⟨_, g5, g6⟩ := bd_inv g2
            rw [g6] at h1
            generalize hn : (rU 32 ((c :: r).drop (rB (c :: r)).2.1)).1 = n at h1 g5
            have hn0 : 0 ≤ n := by rw [← hn]; exact Int.emod_nonneg _ (by decide)
            cases hq : decide (n ≤ 7) with
            | true => rw [hq] at h1; have h1' : 64512 + n = 11 := h1; omega
            | false => rw [hq] at g5; exact absurd (show (108 : Int) = 0 from g5) (by decide)
          · split at hx
            · have q : (0 : Int) = 11 := congrArg Prod.fst hx
              exact absurd q (by decide)
            · split at hx
              · have q : (0 : Int) = 11 := congrArg Prod.fst hx
                exact absurd q (by decide)
              · injection hx with q1 q2
                injection q2 with q2 q3
                subst q1; subst q2
                rfl
      · rw [if_neg hy] at a2 ⊢
        obtain ⟨b1, b2, g2⟩ := bd_inv a2
        rw [g2]
        have hl1 : (l.drop n1).length ≤ N := by rw [List.length_drop]; omega
        have r1 := rest_rei (sat := sat) hB1 (fun d m l' hl' hB' hh hd' => ih l' (by omega) hB' d m hh hd') hd hdd.1 b1
        generalize hl1' : l.drop n1 = l1 at *
        generalize hx2 : rRest (sq sat) deep op l1 = x2 at *
        obtain ⟨⟨hh, t, e⟩, n2, e2⟩ := x2
        simp only at b1 b2 r1 ⊢
        obtain ⟨c1, c2, g3⟩ := bd_inv b2
        rw [g3]
        have r2 := ih (l1.drop n2) (by rw [List.length_drop]; omega) (byt_dropS hB1 n2) deep may c1 hd
        generalize hx3 : sq sat deep may (l1.drop n2) = x3 at *
        obtain ⟨⟨T, s⟩, n3, e3⟩ := x3
        obtain ⟨z1, z2, z3, z4⟩ := r2
        obtain ⟨y1, y2, y3, y4, y5, y6⟩ := r1
        simp only at z1 z2 z3 z4 y1 y2 y3 y4 y5 y6
        refine ⟨by show (1 + t.size + e.size + T.size) + 1 ≤ n1 + (n2 + (n3 + 0)); omega, ⟨by rw [y4]; exact hdd.2.2, y2, y3.1, y3.2, z2⟩, ?_, fun hm => ⟨(z4 hm).1, ?_⟩⟩
        · show max (if max t.dep e.dep > 0 ∨ t.len + e.len > 0 ∨ (2 ≤ hh.op ∧ hh.op ≤ 4) then max t.dep e.dep + 1 else max t.dep e.dep) T.dep + deep ≤ 64
          by_cases hi : imI op = 1
          · have := y5 hi
            split <;> omega
          · obtain ⟨rfl, rfl⟩ := y6 hi
            rw [if_neg (by
              rw [y4]
              intro hh
              rcases hh with hh | hh | hh
              · exact absurd hh (by decide)
              · exact absurd hh (by decide)
              · exact hi (low_block hh))]
            show max (max 0 0) T.dep + deep ≤ 64
            omega
        · have := (z4 hm).2
          show l.getD (n1 + (n2 + (n3 + 0)) - 1) 0 = 11
          rw [getD_dropS, ← hl1', getD_dropS] at this
          rw [show n1 + (n2 + (n3 + 0)) - 1 = n1 + (n2 + (n3 - 1)) by omega]
          exact this
    · exact absurd hB hdd
end Go.Proofs.YtalahdkgigcpfaaDoor
namespace Go.Proofs.YtalahdkgigcpfaaDoor
open Go.RowKit

set_option maxHeartbeats 2000000 in
set_option maxRecDepth 100000 in
theorem expr_any {c : Nat} {a : Option Addr} {len cap k : Nat} {xs : List Int} {sat : Bool} {e : Int} {W : World} (h : Cs c a len cap xs k e W) (hm : Mk W) (hc : 3 ≤ c) :
    Calls Tryd.prog 9 #[.pointer (some ⟨c, 0, none⟩), .bool sat] W fun r W' => ∃ p q s T t k' e', r = .returned (.slice p q s) ∧ Rd (sq sat 0 false) xs k e (T, t) k' e' ∧ (e' = 0 → Fov W' (fun b => W.heap.size ≤ b) T (.slice p q s)) ∧ (e' ≠ 0 → Value.slice p q s = .slice none 0 0) ∧ Cs c a len cap xs k' e' W' ∧ Mk W' ∧ Fr [c] W W' := by
  have HE := hide (err_any h)
  have H := hide h
  have HM := hide hm
  by_cases he : e = 0
  · have he' : (e != 0) = false := by simp [he]
    have HO : Hid (c < W.heap.size ∧ ∀ p, a = some p → 0 < len → p.block < W.heap.size) := hide ⟨h.1.lt, h.2.1.lt⟩
    clear h hm
    go_enter Tryd.func9, Tryd.ntmps9
    go_wp2_with fail
    refine (unhide HE).mono ?_
    rintro _ w1 ⟨rfl, hww⟩
    obtain rfl : W = w1 := hww.symm
    clear hww HE
    go_wp2_with fail
    have hb := below1 W (.cells #[.pointer (some ⟨c, 0, none⟩), .bool sat, .int .i64 0] 64)
    have hR : Rs c W.heap.size a len cap xs sat 0 k e (W.alloc (.cells #[.pointer (some ⟨c, 0, none⟩), .bool sat, .int .i64 0] 64)) := by
      refine ⟨(unhide H).bel hb, ⟨by simp [go_sem], by simp [go_sem], by simp [go_sem]⟩, room_cells (cs := [.pointer (some ⟨c, 0, none⟩), .bool sat, .int .i64 0]) (t := 64) W 3 (Nat.le_refl _), (unhide HM).below hb, ?_, hc, ?_, fun p hp hl => ?_⟩
      · have := (unhide HO).1; omega
      · have := (unhide HO).1; omega
      · have := (unhide HO).2 p hp hl; omega
    have HF := hide (Fr.of hb [c])
    have HS := hide hb.size
    clear hb
    generalize W.alloc (.cells #[.pointer (some ⟨c, 0, none⟩), .bool sat, .int .i64 0] 64) = w2 at *
    refine (seq_any (len - k + 1) 0 k e false w2 (by decide) (fun _ => by omega) hR).mono ?_
    rintro _ w3 ⟨p, q, s, m, T, t, k', e', rfl, hD, hV, hR, hF⟩
    have HR := hide hR
    have HD := hide hD
    have HV := hide (fun q => (hV q).1.mono (P' := fun b => W.heap.size ≤ b) (fun b _ h => Nat.le_trans (unhide HS) h))
    have HF := hide ((unhide HF).thenL hF (by simp))
    clear hR hD hV hF
    go_wp2_with fail
    refine (rfailed_any (unhide HR)).mono ?_
    rintro _ w4 ⟨rfl, hww⟩
    obtain rfl : w3 = w4 := hww.symm
    clear hww
    by_cases h' : e' = 0
    · have h'' : (e' != 0) = false := by simp [h']
      go_wp2_with fail
      go_ret
      exact ⟨p, q, s, T, t, k', e', rfl, unhide HD, unhide HV, fun q => absurd h' q, (unhide HR).cur, (unhide HR).var, unhide HF⟩
    · have h'' : (e' != 0) = true := by simp [h']
      go_wp2_with fail
      go_ret
      exact ⟨none, 0, 0, T, t, k', e', rfl, unhide HD, fun q => absurd q h', fun _ => rfl, (unhide HR).cur, (unhide HR).var, unhide HF⟩
  · have he' : (e != 0) = true := by simp [he]
    clear h hm
    go_enter Tryd.func9, Tryd.ntmps9
    go_wp2_with fail
    refine (unhide HE).mono ?_
    rintro _ w1 ⟨rfl, hww⟩
    obtain rfl : W = w1 := hww.symm
    clear hww
    go_wp2_with fail
    go_ret
    exact ⟨none, 0, 0, .nil, false, k, e, rfl, Rd.err _ he, fun q => absurd q he, fun _ => rfl, unhide H, unhide HM, Fr.refl _ _⟩
set_option maxHeartbeats 2000000 in
set_option maxRecDepth 100000 in
theorem expr_nil {sat : Bool} {W : World} : Calls Tryd.prog 9 #[.pointer none, .bool sat] W fun r W' => r = .returned (.slice none 0 0) ∧ W' = W := by
  have HE := hide (err_nil (W := W))
  go_enter Tryd.func9, Tryd.ntmps9
  go_wp2_with fail
  refine (unhide HE).mono ?_
  rintro _ w1 ⟨rfl, rfl⟩
  go_wp2_with fail
  go_ret
  exact ⟨rfl, rfl⟩
end Go.Proofs.YtalahdkgigcpfaaDoor
namespace Go.Proofs.YtalahdkgigcpfaaDoor
open Go.RowKit

theorem rOp_end {sat : Bool} {deep : Nat} {l : List Int} (h : (rOp sat false deep l).2.2 = 0) (hy : (rOp sat false deep l).1 = 5 ∨ (rOp sat false deep l).1 = 11) : (rOp sat false deep l).1 = 11 ∧ (rOp sat false deep l).2.1 = 1 := by
  cases l with
  | nil => exact absurd (show (100 : Int) = 0 from h) (by decide)
  | cons c r =>
    rw [rOp_cons] at h hy ⊢
    split at h
    · rename_i q
      rw [if_pos q] at hy
      exfalso
      unfold rFc at h hy
      obtain ⟨_, g2, g3⟩ := bd_inv h
      rw [g3] at hy
      obtain ⟨_, g5, g6⟩ := bd_inv g2
      rw [g6] at hy
      generalize hn : (rU 32 ((c :: r).drop (rB (c :: r)).2.1)).1 = n at hy g5
      have hn0 : 0 ≤ n := by rw [← hn]; exact Int.emod_nonneg _ (by decide)
      cases hq : decide (n ≤ 7) with
      | true =>
        rw [hq] at hy
        have hy' : 64512 + n = 5 ∨ 64512 + n = 11 := hy
        omega
      | false =>
        rw [hq] at g5
        exact absurd (show (108 : Int) = 0 from g5) (by decide)
    · rename_i q
      rw [if_neg q] at hy ⊢
      split at h
      · exact absurd (show (108 : Int) = 0 from h) (by decide)
      · rename_i q2
        rw [if_neg q2] at hy ⊢
        split at h
        · exact absurd (show (3 : Int) = 0 from h) (by decide)
        · rename_i q3
          rw [if_neg q3] at hy ⊢
          refine ⟨?_, rfl⟩
          have hy' : c = 5 ∨ c = 11 := hy
          show c = 11
          rcases hy' with rfl | h'
          · exact absurd (by simp) q2
          · exact h'
theorem sq_pos {sat : Bool} {deep : Nat} {may : Bool} {l : List Int} (h : (sq sat deep may l).2.2 = 0) : 1 ≤ (sq sat deep may l).2.1 := by
  rw [sq_eq] at h ⊢
  obtain ⟨a1, a2, g⟩ := bd_inv h
  rw [g]
  have := rOp_pos a1
  show 1 ≤ _ + _
  omega
theorem drop_take_app {l b : List Int} {n k : Nat} (hn : n ≤ k) (hl : n ≤ l.length) : (l.take k ++ b).drop n = (l.drop n).take (k - n) ++ b := by
  rw [List.drop_append_of_le_length (by rw [List.length_take]; omega), List.drop_take]
/-- What a reading that went well was. -/
theorem sq_inv {sat : Bool} {deep : Nat} {may : Bool} {l : List Int} (h : (sq sat deep may l).2.2 = 0) : ∃ op n1, rOp sat may deep l = (op, n1, 0) ∧ 1 ≤ n1 ∧ n1 ≤ l.length ∧
    ((op = 5 ∨ op = 11) ∧ sq sat deep may l = ((.nil, op == 5), n1, 0) ∨ ¬ (op = 5 ∨ op = 11) ∧ ∃ i n2 T s n3, rRest (sq sat) deep op (l.drop n1) = (i, n2, 0) ∧ sq sat deep may ((l.drop n1).drop n2) = ((T, s), n3, 0) ∧ sq sat deep may l = ((.cons i.1 i.2.1 i.2.2 T, s), n1 + (n2 + n3), 0)) := by
  rw [sq_eq] at h ⊢
  obtain ⟨a1, a2, g⟩ := bd_inv h
  rw [g]
  have hp := rOp_pos a1
  have hlen := (gq_Op sat may deep).len l
  generalize hx : rOp sat may deep l = x at *
  obtain ⟨op, n1, e1⟩ := x
  dsimp only at a1 a2 hp hlen ⊢
  subst a1
  refine ⟨op, n1, rfl, hp, hlen, ?_⟩
  by_cases hy : op = 5 ∨ op = 11
  · rw [if_pos hy]
    exact .inl ⟨hy, rfl⟩
  · rw [if_neg hy] at a2 ⊢
    obtain ⟨b1, b2, g2⟩ := bd_inv a2
    rw [g2]
    generalize hx2 : rRest (sq sat) deep op (l.drop n1) = x2 at *
    obtain ⟨i, n2, e2⟩ := x2
    dsimp only at b1 b2 ⊢
    subst b1
    obtain ⟨c1, c2, g3⟩ := bd_inv b2
    rw [g3]
    generalize hx3 : sq sat deep may ((l.drop n1).drop n2) = x3 at *
    obtain ⟨⟨T, s⟩, n3, e3⟩ := x3
    dsimp only at c1 ⊢
    subst c1
    exact .inr ⟨hy, i, n2, T, s, n3, rfl, hx3, rfl⟩
theorem sq_put {sat : Bool} {deep : Nat} {may : Bool} {l : List Int} {op : Int} {n1 n2 n3 : Nat} {i : In} {T : Fo} {s : Bool} (h1 : rOp sat may deep l = (op, n1, 0)) (hy : ¬ (op = 5 ∨ op = 11)) (h2 : rRest (sq sat) deep op (l.drop n1) = (i, n2, 0)) (h3 : sq sat deep may ((l.drop n1).drop n2) = ((T, s), n3, 0)) :
    sq sat deep may l = ((.cons i.1 i.2.1 i.2.2 T, s), n1 + (n2 + n3), 0) := by
  rw [sq_eq, bd_ok (by rw [h1]), h1]
  dsimp only
  rw [if_neg hy, bd_ok (by rw [h2]), h2]
  dsimp only
  rw [bd_ok (by rw [h3]), h3]
  rfl
/-- One expression's bytes without their end, and another's. -/
theorem sq_joins {sat : Bool} {deep : Nat} {b : List Int} {T' : Fo} {s' : Bool} {m' : Nat} (hb : sq sat deep false b = ((T', s'), m', 0)) : ∀ (N : Nat) (l : List Int), l.length ≤ N → ∀ (T : Fo) (s : Bool) (m : Nat), sq sat deep false l = ((T, s), m, 0) →
    sq sat deep false (l.take (m - 1) ++ b) = ((T.app T', s'), m - 1 + m', 0) := by
  intro N
  induction N with
  | zero =>
    intro l hl T s m h
    have : l = [] := List.eq_nil_of_length_eq_zero (by omega)
    subst this
    have : (sq sat deep false []).2.2 = 0 := by rw [h]
    exact absurd (show (100 : Int) = 0 from this) (by decide)
  | succ N ih =>
    intro l hl T s m h
    obtain ⟨op, n1, h1, hp, hlen, ⟨hy, hq⟩ | ⟨hy, i, n2, T3, s3, n3, h2, h3, hq⟩⟩ := sq_inv (sat := sat) (deep := deep) (may := false) (l := l) (by rw [h])
    · have he := rOp_end (sat := sat) (deep := deep) (l := l) (by rw [h1]) (by rw [h1]; exact hy)
      rw [h1] at he
      obtain ⟨rfl, rfl⟩ := he
      rw [h] at hq
      injection hq with q1 q2
      injection q1 with q1 q3
      injection q2 with q2 q4
      subst q1; subst q2
      show sq sat deep false ([] ++ b) = _
      rw [List.nil_append, hb, Fo.app]
      simp
    · rw [h] at hq
      injection hq with q1 q2
      injection q1 with q1 q3
      injection q2 with q2 q4
      subst q1; subst q2
      have hp3 := sq_pos (sat := sat) (deep := deep) (may := false) (l := (l.drop n1).drop n2) (by rw [h3])
      rw [h3] at hp3
      dsimp only at hp3
      have hl2 := (gq_Rest (fun d m => gq_sq sat d m) deep op).len (l.drop n1)
      rw [h2] at hl2
      dsimp only at hl2
      have j1 := (gq_Op sat false deep).joined (l := l) (k := n1 + (n2 + n3) - 1) (by rw [h1]) (by rw [h1]; show n1 ≤ _; omega) b
      have j2 := (gq_Rest (fun d m => gq_sq sat d m) deep op).joined (l := l.drop n1) (k := n2 + n3 - 1) (by rw [h2]) (by rw [h2]; show n2 ≤ _; omega) b
      have j3 := ih ((l.drop n1).drop n2) (by rw [List.length_drop, List.length_drop]; omega) T3 s3 n3 h3
      have d1 : (l.take (n1 + (n2 + n3) - 1) ++ b).drop n1 = (l.drop n1).take (n2 + n3 - 1) ++ b := by
        rw [drop_take_app (by omega) hlen, show n1 + (n2 + n3) - 1 - n1 = n2 + n3 - 1 by omega]
      have d2 : ((l.drop n1).take (n2 + n3 - 1) ++ b).drop n2 = ((l.drop n1).drop n2).take (n3 - 1) ++ b := by
        rw [drop_take_app (by omega) hl2, show n2 + n3 - 1 - n2 = n3 - 1 by omega]
      have := sq_put (may := false) (T := T3.app T') (s := s') (n3 := n3 - 1 + m') (j1.trans h1) hy (by rw [d1]; exact j2.trans h2) (by rw [d1, d2]; exact j3)
      rw [this]
      refine Prod.ext rfl (Prod.ext ?_ rfl)
      show n1 + (n2 + (n3 - 1 + m')) = n1 + (n2 + n3) - 1 + m'
      omega
end Go.Proofs.YtalahdkgigcpfaaDoor
namespace Go.Proofs.YtalahdkgigcpfaaDoor
open Go.RowKit

theorem fo_nil : ∀ {U : Fo}, U.len = 0 → U = .nil
  | .nil, _ => rfl
  | .cons _ _ _ _, h => by simp [Fo.len] at h
theorem ry_lit (Q : Nat → Prop) (w : World) : Ry Q 50 w.heap.size (.slice (some ⟨w.heap.size, 0, none⟩) 0 0) .nil [] 0 (w.alloc (.cells #[] 50)) :=
  ⟨World.ownsRow_lit (base := w.heap.size) (e := 50) (size := 9) w #[] 0 (Nat.le_refl _) (by unfold maxLen; omega) rfl, fun _ => rfl⟩
/-- All of a slice's instructions more. -/
theorem Ry.apps {Q : Nat → Prop} {t ty : TypeId} {i : TypeInfo} {z : Value} {bytes : Nat} (ht : Tryd.prog.underlying t = some (.slice ty)) (hi : Tryd.prog.info? ty = some i) (hz : i.zero = some z)
    (hsize : i.size = 9) (hby : i.bytes = bytes) (hb1 : bytes ≤ 1000) (hzs : z.cells.size = 9) {B : Nat} {v u : Value} {T U : Fo} {cs : List Value} {w : World} (h : Ry Q ty B v T cs 0 w)
    (hB : B ≤ w.heap.size) (hn : T.len + U.len ≤ 10000000000) (hU : Fov w (fun b => Q b ∧ b < B) U u) :
    ∃ p s w3 ds, (Builtin.append_ #[t, t] t #[v, u]).run Tryd.prog w = .ok (.slice p (T.app U).len s) w3 ∧ Ry Q ty B (.slice p (T.app U).len s) (T.app U) (cs ++ ds) 0 w3 ∧ w.heap.size ≤ w3.heap.size ∧ Below B w w3 := by
  obtain ⟨ds, hE, a, cap, rfl, hcap, hzz, hpos⟩ := hU
  rcases hpos with ⟨rfl, h0, rfl⟩ | ⟨b, off, rfl, hP, hcell⟩
  · obtain rfl := fo_nil h0
    obtain rfl := hzz.1 h0
    obtain ⟨p, s, rfl⟩ := h.slice
    rw [Fo.app_nil]
    exact ⟨p, s, w, [], run_append_owned_none (P := Tryd.prog) (w := w) B t t ty _ 9 ht hi _ T.len cs h.own, by rw [List.append_nil]; exact h, Nat.le_refl _, Below.refl _ _⟩
  · have hvl := h.own.lt
    obtain ⟨v', w3, hr, g1, g2, g3⟩ := app_own (c := cap) ht hi hz hsize hby hzs (by decide) h.own (m := U.len) (news := ds) (a := ⟨b, off, none⟩) hE.len (fun j x hj => by rw [add_off]; exact hcell j x hj) hE.one (by unfold maxLen; omega) (by have := Nat.mul_le_mul hn (show i.bytes ≤ 1000 by omega); rw [← hby]; omega) hB
    have hfg := fr_grown g2
    have hR : Ry Q ty B v' (T.app U) (cs ++ ds) 0 w3 := by
      refine ⟨by rw [Fo.len_app]; exact g1, fun q => ?_⟩
      have hv1 : ∀ b, v'.ownBlock = some b → v.ownBlock = some b ∨ w.heap.size ≤ b := g3
      have m0 : ∀ b, b < w.heap.size → (fun b => Q b ∧ b < B ∨ B ≤ b ∧ v.ownBlock ≠ some b) b → (fun b => (Q b ∧ b < B ∨ B ≤ b ∧ v.ownBlock ≠ some b) ∧ b < w.heap.size) b := fun b h1 h2 => ⟨h2, h1⟩
      have fin0 : ∀ b, b < w3.heap.size → (fun b => (Q b ∧ b < B ∨ B ≤ b ∧ v.ownBlock ≠ some b) ∧ b < w.heap.size) b → (fun b => Q b ∧ b < B ∨ B ≤ b ∧ v'.ownBlock ≠ some b) b := by
        intro b _ hq
        rcases hq.1 with q1 | q1
        · exact .inl q1
        · refine .inr ⟨q1.1, fun hv' => ?_⟩
          rcases hv1 b hv' with q2 | q2
          · exact q1.2 q2
          · have := hq.2; omega
      have up : ∀ i ∈ v.ownBlock.toList, ¬ (fun b => (Q b ∧ b < B ∨ B ≤ b ∧ v.ownBlock ≠ some b) ∧ b < w.heap.size) i := by
        intro i hi hp
        have hv : v.ownBlock = some i := by simpa using hi
        rcases hp.1 with q1 | q1
        · have := (hvl i hv).1; omega
        · exact q1.2 hv
      have m1 : ∀ b, b < w.heap.size → (fun b => Q b ∧ b < B) b → (fun b => (Q b ∧ b < B ∨ B ≤ b ∧ v.ownBlock ≠ some b) ∧ b < w.heap.size) b := fun b h1 h2 => ⟨.inl h2, h1⟩
      exact Enc.app (((hE.mono m1).fr hfg up).mono fin0) ((((h.enc q).mono m0).fr hfg up).mono fin0)
    obtain ⟨p, s, rfl⟩ := hR.slice
    exact ⟨p, s, w3, ds, hr, hR, g2.size, (Below.refl B w).grown g2 hB (fun k hk => (hvl k hk).1)⟩
end Go.Proofs.YtalahdkgigcpfaaDoor
