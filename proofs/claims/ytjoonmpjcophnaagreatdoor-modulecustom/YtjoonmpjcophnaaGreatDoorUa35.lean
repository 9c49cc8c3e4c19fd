/- RfC, CdF, CdG. -/
import Derived.Test.YtjoonmpjcophnaaGreatDoorUa27
import Derived.Test.YtjoonmpjcophnaaGreatDoorUa28
import Derived.Test.YtjoonmpjcophnaaGreatDoorUa34
namespace Go.Proofs.YtjoonmpjcophnaaGreatDoor
open Go.RowKit

/-- Bytes one behind the other, whether they are there or not. -/
def mb (xs : List Int) (k : Nat) (e : Int) : Nat → Int × Nat × Int
  | 0 => (0, k, e)
  | i + 1 => ((mb xs k e i).1 + 256 ^ i * (lift rB 0 xs (mb xs k e i).2.1 (mb xs k e i).2.2).1, (lift rB 0 xs (mb xs k e i).2.1 (mb xs k e i).2.2).2.1, (lift rB 0 xs (mb xs k e i).2.1 (mb xs k e i).2.2).2.2)
theorem u64_id {x : Int} (h1 : 0 ≤ x) (h2 : x < 18446744073709551616) : IntKind.u64.wrap x = x := by
  simp only [IntKind.wrap, IntKind.bits, IntKind.signed]
  simp
  omega
end Go.Proofs.YtjoonmpjcophnaaGreatDoor
namespace Go.Proofs.YtjoonmpjcophnaaGreatDoor
open Go.RowKit

theorem nv_1 {W : World} (op : Int) : Nv W.heap.size (W.heap.size + 1) (hcells (hd0 op) (.slice none 0 0) (.slice none 0 0) (.slice none 0 0)) ((W.alloc (.cells #[.int .i64 0, .int .u8 0, .int .u32 0, .int .u32 0, .int .u64 0, .slice none 0 0, .slice none 0 0, .slice none 0 0, .bool false] 160)).alloc (.cells #[.int .i64 op, .int .u8 0, .int .u32 0, .int .u32 0, .int .u64 0, .slice none 0 0, .slice none 0 0, .slice none 0 0, .bool false] 160)) := by
  have hr := room_cells (cs := hcells (hd0 op) (.slice none 0 0) (.slice none 0 0) (.slice none 0 0)) (t := 160) (W.alloc (.cells #[.int .i64 0, .int .u8 0, .int .u32 0, .int .u32 0, .int .u64 0, .slice none 0 0, .slice none 0 0, .slice none 0 0, .bool false] 160)) 9 (Nat.le_refl _)
  have hs : (W.alloc (.cells #[.int .i64 0, .int .u8 0, .int .u32 0, .int .u32 0, .int .u64 0, .slice none 0 0, .slice none 0 0, .slice none 0 0, .bool false] 160)).heap.size = W.heap.size + 1 := by simp
  rw [hs] at hr
  refine ⟨fun j v hj => ?_, hr, by omega, by simp⟩
  rw [← hs, World.cell?_alloc_new]
  simpa [hcells, hd0] using hj
theorem nv_0 {W : World} (o : Obj) : Nv W.heap.size W.heap.size (hcells (hd0 0) (.slice none 0 0) (.slice none 0 0) (.slice none 0 0)) ((W.alloc (.cells #[.int .i64 0, .int .u8 0, .int .u32 0, .int .u32 0, .int .u64 0, .slice none 0 0, .slice none 0 0, .slice none 0 0, .bool false] 160)).alloc o) := by
  have hr := room_cells (cs := hcells (hd0 0) (.slice none 0 0) (.slice none 0 0) (.slice none 0 0)) (t := 160) W 9 (Nat.le_refl _)
  refine ⟨Tab.bel (fun j v hj => ?_) (below1 _ o), Room.alloc hr o, Nat.le_refl _, by simp; omega⟩
  rw [World.cell?_alloc_new]
  simpa [hcells, hd0] using hj
theorem fr_set9 (w : World) (b : Nat) (v0 v1 v2 v3 v4 v5 v6 v7 v8 : Value) : Fr [b] w (((((((((w.setCell ⟨b, 0, none⟩ v0).setCell ⟨b, 1, none⟩ v1).setCell ⟨b, 2, none⟩ v2).setCell ⟨b, 3, none⟩ v3).setCell ⟨b, 4, none⟩ v4).setCell ⟨b, 5, none⟩ v5).setCell ⟨b, 6, none⟩ v6).setCell ⟨b, 7, none⟩ v7).setCell ⟨b, 8, none⟩ v8) :=
  ((((((((((Fr.refl [b] w).place 0 v0).place 1 v1).place 2 v2).place 3 v3).place 4 v4).place 5 v5).place 6 v6).place 7 v7).place 8 v8)
theorem s32b {c : Nat} {a : Option Addr} {len cap k : Nat} {xs : List Int} {e : Int} {W : World} (h : Cs c a len cap xs k e W) : ∃ y k1 e1, Rd rS32 xs k e y k1 e1 ∧ (0 ≤ y ∧ y < 4294967296) ∧
    Calls Tryz.prog 176 #[.pointer (some ⟨c, 0, none⟩)] W fun r W' => r = .returned (.int .u32 y) ∧ Cs c a len cap xs k1 e1 W' ∧ Fr [c] W W' := ⟨_, _, _, rd_bnd (gd_S 32) Rd.lift, ⟨Int.emod_nonneg _ (by decide), Int.emod_lt_of_pos _ (by decide)⟩, s32_any h⟩
/-- The contract of an instruction. -/
def InstrP (c rb : Nat) (a : Option Addr) (len cap : Nat) (xs : List Int) (sat : Bool) (deep k : Nat) (e : Int) (op : Int) (W : World) : Prop :=
  Calls Tryz.prog 167 #[.pointer (some ⟨rb, 0, none⟩), .int .i64 op] W fun r W' => ∃ (h' : Hd) (l1 : Option Addr) (l2 l3 : Nat) (p1 : Option Addr) (q1 s1 : Nat) (p2 : Option Addr) (q2 s2 : Nat) (i : In) (k' : Nat) (e' : Int), r = .returned (.agg #[.int .i64 h'.op, .int .u8 h'.ty, .int .u32 h'.a, .int .u32 h'.b, .int .u64 h'.bits, .slice l1 l2 l3, .slice p1 q1 s1, .slice p2 q2 s2, .bool h'.has]) ∧ Rd (rRest (sq sat) deep op) xs k e i k' e' ∧
    (e' = 0 → i.1 = h' ∧ Slc W' (fun b => W.heap.size ≤ b) h'.list.length (uCells h'.list) (.slice l1 l2 l3) ∧ Fov W' (fun b => W.heap.size ≤ b) i.2.1 (.slice p1 q1 s1) ∧ Fov W' (fun b => W.heap.size ≤ b) i.2.2 (.slice p2 q2 s2)) ∧ Rs c rb a len cap xs sat deep k' e' W' ∧ Fr [c, rb] W W'
set_option maxHeartbeats 8000000 in
set_option maxRecDepth 100000 in
theorem instr_0 {n : Nat} {op : Int} {c rb : Nat} {a : Option Addr} {len cap : Nat} {xs : List Int} {sat : Bool} {deep k : Nat} {e : Int} {W : World} (HI : Hid (PSeq c rb a len cap xs sat n)) (h : Rs c rb a len cap xs sat deep k e W) (hk : e = 0 → len - k < n) (hb : imI op = 1 → deep < 64) (ho : op ≤ 9223372036854775807) (hv : ∀ j : Int, 1 ≤ j → j ≤ 11 → imI op ≠ j) : InstrP c rb a len cap xs sat deep k e op W := by
  have HR := hide h
  have HO : Hid (Old W.heap.size c rb a len) := hide (h.old (Nat.le_refl W.heap.size))
  have HIm := hide (imm_any op ho)
  have k1 : (imI op == 1) = false := by have := hv 1 (by decide) (by decide); simp [this]
  have k2 : (imI op == 2) = false := by have := hv 2 (by decide) (by decide); simp [this]
  have k3 : (imI op == 3) = false := by have := hv 3 (by decide) (by decide); simp [this]
  have k4 : (imI op == 4) = false := by have := hv 4 (by decide) (by decide); simp [this]
  have k5 : (imI op == 5) = false := by have := hv 5 (by decide) (by decide); simp [this]
  have k6 : (imI op == 6) = false := by have := hv 6 (by decide) (by decide); simp [this]
  have k7 : (imI op == 7) = false := by have := hv 7 (by decide) (by decide); simp [this]
  have k8 : (imI op == 8) = false := by have := hv 8 (by decide) (by decide); simp [this]
  have k9 : (imI op == 9) = false := by have := hv 9 (by decide) (by decide); simp [this]
  have k10 : (imI op == 10) = false := by have := hv 10 (by decide) (by decide); simp [this]
  have k11 : (imI op == 11) = false := by have := hv 11 (by decide) (by decide); simp [this]
  have _ := HI
  have _ := hk
  have _ := hb
  have HV0 := hide hv
  clear h hk hb hv
  unfold InstrP
  go_enter Tryz.func167, Tryz.ntmps167
  go_wp2_with fail
  have hb := below2 W (.cells #[.int .i64 0, .int .u8 0, .int .u32 0, .int .u32 0, .int .u64 0, .slice none 0 0, .slice none 0 0, .slice none 0 0, .bool false] 160) (.cells #[.int .i64 op, .int .u8 0, .int .u32 0, .int .u32 0, .int .u64 0, .slice none 0 0, .slice none 0 0, .slice none 0 0, .bool false] 160)
  have HR := hide ((unhide HR).bel hb)
  have HF := hide (Fr.of hb [c, rb])
  have HN := hide (nv_1 (W := W) op)
  have HV := hide (nv_0 (W := W) (.cells #[.int .i64 op, .int .u8 0, .int .u32 0, .int .u32 0, .int .u64 0, .slice none 0 0, .slice none 0 0, .slice none 0 0, .bool false] 160))
  generalize (W.alloc (.cells #[.int .i64 0, .int .u8 0, .int .u32 0, .int .u32 0, .int .u64 0, .slice none 0 0, .slice none 0 0, .slice none 0 0, .bool false] 160)).alloc (.cells #[.int .i64 op, .int .u8 0, .int .u32 0, .int .u32 0, .int .u64 0, .slice none 0 0, .slice none 0 0, .slice none 0 0, .bool false] 160) = wr at *
  refine ((unhide HIm) _ (unhide HR).var).mono ?_
  rintro _ w0 ⟨rfl, hb1⟩
  have HR := hide ((unhide HR).bel hb1)
  have HF := hide ((unhide HF).bel hb1)
  have HN := hide ((unhide HN).fr (Fr.of hb1 []) (by simp))
  have HV := hide ((unhide HV).fr (Fr.of hb1 []) (by simp))
  clear hb hb1 HIm
  have t0 := (unhide HN).tab 0 _ rfl
  have z0 := (unhide HV).tab 0 _ rfl
  have fz0 := ((unhide HV).room 0 (by decide)).2
  have t1 := (unhide HN).tab 1 _ rfl
  have z1 := (unhide HV).tab 1 _ rfl
  have fz1 := ((unhide HV).room 1 (by decide)).2
  have t2 := (unhide HN).tab 2 _ rfl
  have z2 := (unhide HV).tab 2 _ rfl
  have fz2 := ((unhide HV).room 2 (by decide)).2
  have t3 := (unhide HN).tab 3 _ rfl
  have z3 := (unhide HV).tab 3 _ rfl
  have fz3 := ((unhide HV).room 3 (by decide)).2
  have t4 := (unhide HN).tab 4 _ rfl
  have z4 := (unhide HV).tab 4 _ rfl
  have fz4 := ((unhide HV).room 4 (by decide)).2
  have t5 := (unhide HN).tab 5 _ rfl
  have z5 := (unhide HV).tab 5 _ rfl
  have fz5 := ((unhide HV).room 5 (by decide)).2
  have t6 := (unhide HN).tab 6 _ rfl
  have z6 := (unhide HV).tab 6 _ rfl
  have fz6 := ((unhide HV).room 6 (by decide)).2
  have t7 := (unhide HN).tab 7 _ rfl
  have z7 := (unhide HV).tab 7 _ rfl
  have fz7 := ((unhide HV).room 7 (by decide)).2
  have t8 := (unhide HN).tab 8 _ rfl
  have z8 := (unhide HV).tab 8 _ rfl
  have fz8 := ((unhide HV).room 8 (by decide)).2
  dsimp only [hd0] at t0 t1 t2 t3 t4 t8
  go_wp2_with fail
  refine bodyPost_ret (v := .agg #[.int .i64 op, .int .u8 0, .int .u32 0, .int .u32 0, .int .u64 0, .slice none 0 0, .slice none 0 0, .slice none 0 0, .bool false]) (by simp [results, Tryz.results167, go_sem, z0, z1, z2, z3, z4, z5, z6, z7, z8]) rfl ?_
  have fZ := fun w => fr_set9 w W.heap.size (.int .i64 op) (.int .u8 0) (.int .u32 0) (.int .u32 0) (.int .u64 0) (.slice none 0 0) (.slice none 0 0) (.slice none 0 0) (.bool false)
  refine ⟨⟨op, 0, 0, 0, 0, [], false⟩, _, _, _, none, 0, 0, none, 0, 0, (⟨op, 0, 0, 0, 0, [], false⟩, .nil, .nil), _, _, rfl, ?_, fun _ => ⟨rfl, slc_nil _ _, fov_nil _ _, fov_nil _ _⟩, (unhide HR).fr (fZ _) (unhide HO) (by simp), (unhide HF).thenL (fZ _) (by simp)⟩
  rw [show rRest (sq sat) deep op = giv (hd0 op, .nil, .nil) by unfold rRest rPlain; have := unhide HV0; rw [if_neg (this 1 (by decide) (by decide)), if_neg (fun q => q.elim (this 2 (by decide) (by decide)) (this 4 (by decide) (by decide))), if_neg (this 3 (by decide) (by decide)), if_neg (this 5 (by decide) (by decide)), if_neg (this 6 (by decide) (by decide)), if_neg (this 7 (by decide) (by decide)), if_neg (this 8 (by decide) (by decide)), if_neg (this 9 (by decide) (by decide)), if_neg (this 10 (by decide) (by decide)), if_neg (this 11 (by decide) (by decide))]]
  exact Rd.giv _ _ _ _
set_option maxHeartbeats 8000000 in
set_option maxRecDepth 100000 in
theorem instr_1 {n : Nat} {op : Int} {c rb : Nat} {a : Option Addr} {len cap : Nat} {xs : List Int} {sat : Bool} {deep k : Nat} {e : Int} {W : World} (HI : Hid (PSeq c rb a len cap xs sat n)) (h : Rs c rb a len cap xs sat deep k e W) (hk : e = 0 → len - k < n) (hb : imI op = 1 → deep < 64) (ho : op ≤ 9223372036854775807) (hv : imI op = 1) : InstrP c rb a len cap xs sat deep k e op W := by
  have HR := hide h
  have HO : Hid (Old W.heap.size c rb a len) := hide (h.old (Nat.le_refl W.heap.size))
  have HIm := hide (imm_any op ho)
  rw [hv] at HIm
  have HK := hide hk
  have HB := hide (hb hv)
  have HV0 := hide hv
  clear h hk hb hv
  unfold InstrP
  go_enter Tryz.func167, Tryz.ntmps167
  go_wp2_with fail
  have hb := below2 W (.cells #[.int .i64 0, .int .u8 0, .int .u32 0, .int .u32 0, .int .u64 0, .slice none 0 0, .slice none 0 0, .slice none 0 0, .bool false] 160) (.cells #[.int .i64 op, .int .u8 0, .int .u32 0, .int .u32 0, .int .u64 0, .slice none 0 0, .slice none 0 0, .slice none 0 0, .bool false] 160)
  have HR := hide ((unhide HR).bel hb)
  have HF := hide (Fr.of hb [c, rb])
  have HN := hide (nv_1 (W := W) op)
  have HV := hide (nv_0 (W := W) (.cells #[.int .i64 op, .int .u8 0, .int .u32 0, .int .u32 0, .int .u64 0, .slice none 0 0, .slice none 0 0, .slice none 0 0, .bool false] 160))
  generalize (W.alloc (.cells #[.int .i64 0, .int .u8 0, .int .u32 0, .int .u32 0, .int .u64 0, .slice none 0 0, .slice none 0 0, .slice none 0 0, .bool false] 160)).alloc (.cells #[.int .i64 op, .int .u8 0, .int .u32 0, .int .u32 0, .int .u64 0, .slice none 0 0, .slice none 0 0, .slice none 0 0, .bool false] 160) = wr at *
  refine ((unhide HIm) _ (unhide HR).var).mono ?_
  rintro _ w0 ⟨rfl, hb1⟩
  have HR := hide ((unhide HR).bel hb1)
  have HF := hide ((unhide HF).bel hb1)
  have HN := hide ((unhide HN).fr (Fr.of hb1 []) (by simp))
  have HV := hide ((unhide HV).fr (Fr.of hb1 []) (by simp))
  clear hb hb1 HIm
  have h0 := (unhide HR).rdr.1
  go_wp2_with fail
  clear h0
  have hsz := (unhide HN).lt
  refine (block_any (op := op) HI (unhide HR) (unhide HB) (unhide HK) (unhide HO) (unhide HN)).mono ?_
  rintro _ w1 ⟨⟨o1, o2, o3, o4, o5, o6, o7⟩, p1, q1, s1, p2, q2, s2, i, k1, e1, rfl, hN, hd, hl, hV, hR, hF⟩
  have HD1 := hide hd
  have HR := hide hR
  have HS : Hid (W.heap.size + 1 < w0.heap.size) := hide hsz
  have HF := hide ((unhide HF).thenL hF (fun i hi => by simp only [List.mem_cons, List.not_mem_nil, or_false] at hi ⊢; omega))
  have HV := hide ((unhide HV).fr hF (by have := (unhide HO).c; have := (unhide HO).r; simp; omega))
  have HN := hide hN
  have HT := hide hV
  have HLi := hide hl
  clear hd hR hF hN hV hl hsz
  have t0 := (unhide HN).tab 0 _ rfl
  have z0 := (unhide HV).tab 0 _ rfl
  have fz0 := ((unhide HV).room 0 (by decide)).2
  have t1 := (unhide HN).tab 1 _ rfl
  have z1 := (unhide HV).tab 1 _ rfl
  have fz1 := ((unhide HV).room 1 (by decide)).2
  have t2 := (unhide HN).tab 2 _ rfl
  have z2 := (unhide HV).tab 2 _ rfl
  have fz2 := ((unhide HV).room 2 (by decide)).2
  have t3 := (unhide HN).tab 3 _ rfl
  have z3 := (unhide HV).tab 3 _ rfl
  have fz3 := ((unhide HV).room 3 (by decide)).2
  have t4 := (unhide HN).tab 4 _ rfl
  have z4 := (unhide HV).tab 4 _ rfl
  have fz4 := ((unhide HV).room 4 (by decide)).2
  have t5 := (unhide HN).tab 5 _ rfl
  have z5 := (unhide HV).tab 5 _ rfl
  have fz5 := ((unhide HV).room 5 (by decide)).2
  have t6 := (unhide HN).tab 6 _ rfl
  have z6 := (unhide HV).tab 6 _ rfl
  have fz6 := ((unhide HV).room 6 (by decide)).2
  have t7 := (unhide HN).tab 7 _ rfl
  have z7 := (unhide HV).tab 7 _ rfl
  have fz7 := ((unhide HV).room 7 (by decide)).2
  have t8 := (unhide HN).tab 8 _ rfl
  have z8 := (unhide HV).tab 8 _ rfl
  have fz8 := ((unhide HV).room 8 (by decide)).2
  (try dsimp only at t0 t1 t2 t3 t4 t8)
  go_wp2_with fail
  refine bodyPost_ret (v := .agg #[.int .i64 o1, .int .u8 o2, .int .u32 o3, .int .u32 o4, .int .u64 o5, .slice none 0 0, .slice p1 q1 s1, .slice p2 q2 s2, .bool o7]) (by simp [results, Tryz.results167, go_sem, z0, z1, z2, z3, z4, z5, z6, z7, z8]) rfl ?_
  have fZ := fun w => fr_set9 w W.heap.size (.int .i64 o1) (.int .u8 o2) (.int .u32 o3) (.int .u32 o4) (.int .u64 o5) (.slice none 0 0) (.slice p1 q1 s1) (.slice p2 q2 s2) (.bool o7)
  refine ⟨⟨o1, o2, o3, o4, o5, o6, o7⟩, none, 0, 0, p1, q1, s1, p2, q2, s2, i, _, _, rfl, ?_, fun q => ?_, (unhide HR).fr (fZ _) (unhide HO) (by simp), (unhide HF).thenL (fZ _) (by simp)⟩
  · rw [show rRest (sq sat) deep op = rBlk (sq sat) deep op by unfold rRest; rw [if_pos (unhide HV0)]]; exact unhide HD1
  · obtain ⟨g1, g2, g3⟩ := unhide HT q
    have hs := unhide HS
    have hli := unhide HLi
    subst hli
    exact ⟨g1, slc_nil _ _, (g2.fr (fZ _) (by simp; omega)).mono (fun b _ hb => by omega), (g3.fr (fZ _) (by simp; omega)).mono (fun b _ hb => by omega)⟩
set_option maxHeartbeats 8000000 in
set_option maxRecDepth 100000 in
theorem instr_2 {n : Nat} {op : Int} {c rb : Nat} {a : Option Addr} {len cap : Nat} {xs : List Int} {sat : Bool} {deep k : Nat} {e : Int} {W : World} (HI : Hid (PSeq c rb a len cap xs sat n)) (h : Rs c rb a len cap xs sat deep k e W) (hk : e = 0 → len - k < n) (hb : imI op = 1 → deep < 64) (ho : op ≤ 9223372036854775807) (hv : imI op = 2) : InstrP c rb a len cap xs sat deep k e op W := by
  have HR := hide h
  have HO : Hid (Old W.heap.size c rb a len) := hide (h.old (Nat.le_refl W.heap.size))
  have HIm := hide (imm_any op ho)
  rw [hv] at HIm
  have _ := HI
  have _ := hk
  have _ := hb
  have HV0 := hide hv
  clear h hk hb hv
  unfold InstrP
  go_enter Tryz.func167, Tryz.ntmps167
  go_wp2_with fail
  have hb := below2 W (.cells #[.int .i64 0, .int .u8 0, .int .u32 0, .int .u32 0, .int .u64 0, .slice none 0 0, .slice none 0 0, .slice none 0 0, .bool false] 160) (.cells #[.int .i64 op, .int .u8 0, .int .u32 0, .int .u32 0, .int .u64 0, .slice none 0 0, .slice none 0 0, .slice none 0 0, .bool false] 160)
  have HR := hide ((unhide HR).bel hb)
  have HF := hide (Fr.of hb [c, rb])
  have HN := hide (nv_1 (W := W) op)
  have HV := hide (nv_0 (W := W) (.cells #[.int .i64 op, .int .u8 0, .int .u32 0, .int .u32 0, .int .u64 0, .slice none 0 0, .slice none 0 0, .slice none 0 0, .bool false] 160))
  generalize (W.alloc (.cells #[.int .i64 0, .int .u8 0, .int .u32 0, .int .u32 0, .int .u64 0, .slice none 0 0, .slice none 0 0, .slice none 0 0, .bool false] 160)).alloc (.cells #[.int .i64 op, .int .u8 0, .int .u32 0, .int .u32 0, .int .u64 0, .slice none 0 0, .slice none 0 0, .slice none 0 0, .bool false] 160) = wr at *
  refine ((unhide HIm) _ (unhide HR).var).mono ?_
  rintro _ w0 ⟨rfl, hb1⟩
  have HR := hide ((unhide HR).bel hb1)
  have HF := hide ((unhide HF).bel hb1)
  have HN := hide ((unhide HN).fr (Fr.of hb1 []) (by simp))
  have HV := hide ((unhide HV).fr (Fr.of hb1 []) (by simp))
  clear hb hb1 HIm
  have h0 := (unhide HR).rdr.1
  go_wp2_with fail
  clear h0
  have HX := hide (u32_any (unhide HR).cur)
  have HD1 : Hid (Rd (rU 32) xs k e (lift (rU 32) 0 xs k e).1 (lift (rU 32) 0 xs k e).2.1 (lift (rU 32) 0 xs k e).2.2) := hide Rd.lift
  generalize lift (rU 32) 0 xs k e = L at *
  obtain ⟨y1, k1, e1⟩ := L
  dsimp only at *
  refine (unhide HX).mono ?_
  rintro _ w1 ⟨rfl, hC, hF⟩
  have HR := hide ((unhide HR).step hF hC)
  have HF := hide ((unhide HF).trans (fr_c hF))
  have HN := hide ((unhide HN).fr hF (by have := (unhide HO).c; simp; omega))
  have HV := hide ((unhide HV).fr hF (by have := (unhide HO).c; simp; omega))
  clear hC hF HX
  have t0 := (unhide HN).tab 0 _ rfl
  have z0 := (unhide HV).tab 0 _ rfl
  have fz0 := ((unhide HV).room 0 (by decide)).2
  have t1 := (unhide HN).tab 1 _ rfl
  have z1 := (unhide HV).tab 1 _ rfl
  have fz1 := ((unhide HV).room 1 (by decide)).2
  have t2 := (unhide HN).tab 2 _ rfl
  have z2 := (unhide HV).tab 2 _ rfl
  have fz2 := ((unhide HV).room 2 (by decide)).2
  have t3 := (unhide HN).tab 3 _ rfl
  have z3 := (unhide HV).tab 3 _ rfl
  have fz3 := ((unhide HV).room 3 (by decide)).2
  have t4 := (unhide HN).tab 4 _ rfl
  have z4 := (unhide HV).tab 4 _ rfl
  have fz4 := ((unhide HV).room 4 (by decide)).2
  have t5 := (unhide HN).tab 5 _ rfl
  have z5 := (unhide HV).tab 5 _ rfl
  have fz5 := ((unhide HV).room 5 (by decide)).2
  have t6 := (unhide HN).tab 6 _ rfl
  have z6 := (unhide HV).tab 6 _ rfl
  have fz6 := ((unhide HV).room 6 (by decide)).2
  have t7 := (unhide HN).tab 7 _ rfl
  have z7 := (unhide HV).tab 7 _ rfl
  have fz7 := ((unhide HV).room 7 (by decide)).2
  have t8 := (unhide HN).tab 8 _ rfl
  have z8 := (unhide HV).tab 8 _ rfl
  have fz8 := ((unhide HV).room 8 (by decide)).2
  have pf := ((unhide HN).room 2 (by decide)).2
  dsimp only [hd0] at t0 t1 t2 t3 t4 t8
  go_wp2_with fail
  have fA : Fr [W.heap.size + 1] w1 (w1.setCell ⟨W.heap.size + 1, 2, none⟩ (.int .u32 y1)) := (Fr.refl _ _).place _ _
  have HR := hide ((unhide HR).fr fA (unhide HO) (by simp))
  have HF := hide ((unhide HF).set 2 (Or.inr (by omega) : W.heap.size + 1 ∈ [c, rb] ∨ W.heap.size ≤ W.heap.size + 1) (.int .u32 y1))
  refine bodyPost_ret (v := .agg #[.int .i64 op, .int .u8 0, .int .u32 y1, .int .u32 0, .int .u64 0, .slice none 0 0, .slice none 0 0, .slice none 0 0, .bool false]) (by simp [results, Tryz.results167, go_sem, z0, z1, z2, z3, z4, z5, z6, z7, z8]) rfl ?_
  have fZ := fun w => fr_set9 w W.heap.size (.int .i64 op) (.int .u8 0) (.int .u32 y1) (.int .u32 0) (.int .u64 0) (.slice none 0 0) (.slice none 0 0) (.slice none 0 0) (.bool false)
  refine ⟨⟨op, 0, y1, 0, 0, [], false⟩, _, _, _, none, 0, 0, none, 0, 0, (⟨op, 0, y1, 0, 0, [], false⟩, .nil, .nil), _, _, rfl, ?_, fun _ => ⟨rfl, slc_nil _ _, fov_nil _ _, fov_nil _ _⟩, (unhide HR).fr (fZ _) (unhide HO) (by simp), (unhide HF).thenL (fZ _) (by simp)⟩
  rw [show rRest (sq sat) deep op = bd inz (rU 32) fun a => giv ({ hd0 op with a := a }, .nil, .nil) by unfold rRest rPlain; rw [unhide HV0]; rfl]
  exact (unhide HD1).bd (Rd.giv _ _ _ _)
set_option maxHeartbeats 8000000 in
set_option maxRecDepth 100000 in
theorem instr_4 {n : Nat} {op : Int} {c rb : Nat} {a : Option Addr} {len cap : Nat} {xs : List Int} {sat : Bool} {deep k : Nat} {e : Int} {W : World} (HI : Hid (PSeq c rb a len cap xs sat n)) (h : Rs c rb a len cap xs sat deep k e W) (hk : e = 0 → len - k < n) (hb : imI op = 1 → deep < 64) (ho : op ≤ 9223372036854775807) (hv : imI op = 4) : InstrP c rb a len cap xs sat deep k e op W := by
  have HR := hide h
  have HO : Hid (Old W.heap.size c rb a len) := hide (h.old (Nat.le_refl W.heap.size))
  have HIm := hide (imm_any op ho)
  rw [hv] at HIm
  have _ := HI
  have _ := hk
  have _ := hb
  have HV0 := hide hv
  clear h hk hb hv
  unfold InstrP
  go_enter Tryz.func167, Tryz.ntmps167
  go_wp2_with fail
  have hb := below2 W (.cells #[.int .i64 0, .int .u8 0, .int .u32 0, .int .u32 0, .int .u64 0, .slice none 0 0, .slice none 0 0, .slice none 0 0, .bool false] 160) (.cells #[.int .i64 op, .int .u8 0, .int .u32 0, .int .u32 0, .int .u64 0, .slice none 0 0, .slice none 0 0, .slice none 0 0, .bool false] 160)
  have HR := hide ((unhide HR).bel hb)
  have HF := hide (Fr.of hb [c, rb])
  have HN := hide (nv_1 (W := W) op)
  have HV := hide (nv_0 (W := W) (.cells #[.int .i64 op, .int .u8 0, .int .u32 0, .int .u32 0, .int .u64 0, .slice none 0 0, .slice none 0 0, .slice none 0 0, .bool false] 160))
  generalize (W.alloc (.cells #[.int .i64 0, .int .u8 0, .int .u32 0, .int .u32 0, .int .u64 0, .slice none 0 0, .slice none 0 0, .slice none 0 0, .bool false] 160)).alloc (.cells #[.int .i64 op, .int .u8 0, .int .u32 0, .int .u32 0, .int .u64 0, .slice none 0 0, .slice none 0 0, .slice none 0 0, .bool false] 160) = wr at *
  refine ((unhide HIm) _ (unhide HR).var).mono ?_
  rintro _ w0 ⟨rfl, hb1⟩
  have HR := hide ((unhide HR).bel hb1)
  have HF := hide ((unhide HF).bel hb1)
  have HN := hide ((unhide HN).fr (Fr.of hb1 []) (by simp))
  have HV := hide ((unhide HV).fr (Fr.of hb1 []) (by simp))
  clear hb hb1 HIm
  have h0 := (unhide HR).rdr.1
  go_wp2_with fail
  clear h0
  have HX := hide (u32_any (unhide HR).cur)
  have HD1 : Hid (Rd (rU 32) xs k e (lift (rU 32) 0 xs k e).1 (lift (rU 32) 0 xs k e).2.1 (lift (rU 32) 0 xs k e).2.2) := hide Rd.lift
  generalize lift (rU 32) 0 xs k e = L at *
  obtain ⟨y1, k1, e1⟩ := L
  dsimp only at *
  refine (unhide HX).mono ?_
  rintro _ w1 ⟨rfl, hC, hF⟩
  have HR := hide ((unhide HR).step hF hC)
  have HF := hide ((unhide HF).trans (fr_c hF))
  have HN := hide ((unhide HN).fr hF (by have := (unhide HO).c; simp; omega))
  have HV := hide ((unhide HV).fr hF (by have := (unhide HO).c; simp; omega))
  clear hC hF HX
  have t0 := (unhide HN).tab 0 _ rfl
  have z0 := (unhide HV).tab 0 _ rfl
  have fz0 := ((unhide HV).room 0 (by decide)).2
  have t1 := (unhide HN).tab 1 _ rfl
  have z1 := (unhide HV).tab 1 _ rfl
  have fz1 := ((unhide HV).room 1 (by decide)).2
  have t2 := (unhide HN).tab 2 _ rfl
  have z2 := (unhide HV).tab 2 _ rfl
  have fz2 := ((unhide HV).room 2 (by decide)).2
  have t3 := (unhide HN).tab 3 _ rfl
  have z3 := (unhide HV).tab 3 _ rfl
  have fz3 := ((unhide HV).room 3 (by decide)).2
  have t4 := (unhide HN).tab 4 _ rfl
  have z4 := (unhide HV).tab 4 _ rfl
  have fz4 := ((unhide HV).room 4 (by decide)).2
  have t5 := (unhide HN).tab 5 _ rfl
  have z5 := (unhide HV).tab 5 _ rfl
  have fz5 := ((unhide HV).room 5 (by decide)).2
  have t6 := (unhide HN).tab 6 _ rfl
  have z6 := (unhide HV).tab 6 _ rfl
  have fz6 := ((unhide HV).room 6 (by decide)).2
  have t7 := (unhide HN).tab 7 _ rfl
  have z7 := (unhide HV).tab 7 _ rfl
  have fz7 := ((unhide HV).room 7 (by decide)).2
  have t8 := (unhide HN).tab 8 _ rfl
  have z8 := (unhide HV).tab 8 _ rfl
  have fz8 := ((unhide HV).room 8 (by decide)).2
  have pf := ((unhide HN).room 2 (by decide)).2
  dsimp only [hd0] at t0 t1 t2 t3 t4 t8
  go_wp2_with fail
  have fA : Fr [W.heap.size + 1] w1 (w1.setCell ⟨W.heap.size + 1, 2, none⟩ (.int .u32 y1)) := (Fr.refl _ _).place _ _
  have HR := hide ((unhide HR).fr fA (unhide HO) (by simp))
  have HF := hide ((unhide HF).set 2 (Or.inr (by omega) : W.heap.size + 1 ∈ [c, rb] ∨ W.heap.size ≤ W.heap.size + 1) (.int .u32 y1))
  refine bodyPost_ret (v := .agg #[.int .i64 op, .int .u8 0, .int .u32 y1, .int .u32 0, .int .u64 0, .slice none 0 0, .slice none 0 0, .slice none 0 0, .bool false]) (by simp [results, Tryz.results167, go_sem, z0, z1, z2, z3, z4, z5, z6, z7, z8]) rfl ?_
  have fZ := fun w => fr_set9 w W.heap.size (.int .i64 op) (.int .u8 0) (.int .u32 y1) (.int .u32 0) (.int .u64 0) (.slice none 0 0) (.slice none 0 0) (.slice none 0 0) (.bool false)
  refine ⟨⟨op, 0, y1, 0, 0, [], false⟩, _, _, _, none, 0, 0, none, 0, 0, (⟨op, 0, y1, 0, 0, [], false⟩, .nil, .nil), _, _, rfl, ?_, fun _ => ⟨rfl, slc_nil _ _, fov_nil _ _, fov_nil _ _⟩, (unhide HR).fr (fZ _) (unhide HO) (by simp), (unhide HF).thenL (fZ _) (by simp)⟩
  rw [show rRest (sq sat) deep op = bd inz (rU 32) fun a => giv ({ hd0 op with a := a }, .nil, .nil) by unfold rRest rPlain; rw [unhide HV0]; rfl]
  exact (unhide HD1).bd (Rd.giv _ _ _ _)
set_option maxHeartbeats 8000000 in
set_option maxRecDepth 100000 in
theorem instr_3 {n : Nat} {op : Int} {c rb : Nat} {a : Option Addr} {len cap : Nat} {xs : List Int} {sat : Bool} {deep k : Nat} {e : Int} {W : World} (HI : Hid (PSeq c rb a len cap xs sat n)) (h : Rs c rb a len cap xs sat deep k e W) (hk : e = 0 → len - k < n) (hb : imI op = 1 → deep < 64) (ho : op ≤ 9223372036854775807) (hv : imI op = 3) : InstrP c rb a len cap xs sat deep k e op W := by
  have HR := hide h
  have HO : Hid (Old W.heap.size c rb a len) := hide (h.old (Nat.le_refl W.heap.size))
  have HIm := hide (imm_any op ho)
  rw [hv] at HIm
  have _ := HI
  have _ := hk
  have _ := hb
  have HV0 := hide hv
  clear h hk hb hv
  unfold InstrP
  go_enter Tryz.func167, Tryz.ntmps167
  go_wp2_with fail
  have hb := below2 W (.cells #[.int .i64 0, .int .u8 0, .int .u32 0, .int .u32 0, .int .u64 0, .slice none 0 0, .slice none 0 0, .slice none 0 0, .bool false] 160) (.cells #[.int .i64 op, .int .u8 0, .int .u32 0, .int .u32 0, .int .u64 0, .slice none 0 0, .slice none 0 0, .slice none 0 0, .bool false] 160)
  have HR := hide ((unhide HR).bel hb)
  have HF := hide (Fr.of hb [c, rb])
  have HN := hide (nv_1 (W := W) op)
  have HV := hide (nv_0 (W := W) (.cells #[.int .i64 op, .int .u8 0, .int .u32 0, .int .u32 0, .int .u64 0, .slice none 0 0, .slice none 0 0, .slice none 0 0, .bool false] 160))
  generalize (W.alloc (.cells #[.int .i64 0, .int .u8 0, .int .u32 0, .int .u32 0, .int .u64 0, .slice none 0 0, .slice none 0 0, .slice none 0 0, .bool false] 160)).alloc (.cells #[.int .i64 op, .int .u8 0, .int .u32 0, .int .u32 0, .int .u64 0, .slice none 0 0, .slice none 0 0, .slice none 0 0, .bool false] 160) = wr at *
  refine ((unhide HIm) _ (unhide HR).var).mono ?_
  rintro _ w0 ⟨rfl, hb1⟩
  have HR := hide ((unhide HR).bel hb1)
  have HF := hide ((unhide HF).bel hb1)
  have HN := hide ((unhide HN).fr (Fr.of hb1 []) (by simp))
  have HV := hide ((unhide HV).fr (Fr.of hb1 []) (by simp))
  clear hb hb1 HIm
  have h0 := (unhide HR).rdr.1
  go_wp2_with fail
  clear h0
  have hsz := (unhide HN).lt
  refine (labels_any (unhide HR)).mono ?_
  rintro _ w1 ⟨_, L, k1, e1, rfl, hd, hS, hR, hF⟩
  have HD1 := hide hd
  have HT := hide hS
  have HS : Hid (W.heap.size + 1 < w0.heap.size) := hide hsz
  have HR := hide hR
  have HF := hide ((unhide HF).trans (fr_c hF))
  have HN := hide ((unhide HN).fr hF (by have := (unhide HO).c; simp; omega))
  have HV := hide ((unhide HV).fr hF (by have := (unhide HO).c; simp; omega))
  obtain ⟨lp, ls, rfl, -⟩ := hS
  clear hd hR hF hsz
  have h0 := (unhide HR).rdr.1
  obtain ⟨⟨u, g⟩, f⟩ := (unhide HN).room 5 (by decide)
  go_wp2_with fail
  clear f g u
  clear h0
  have fA : Fr [W.heap.size + 1] w1 (w1.setCell ⟨W.heap.size + 1, 5, none⟩ (.slice lp L.length ls)) := (Fr.refl _ _).place _ _
  have HR := hide ((unhide HR).fr fA (unhide HO) (by simp))
  have HF := hide ((unhide HF).set 5 (Or.inr (by omega) : W.heap.size + 1 ∈ [c, rb] ∨ W.heap.size ≤ W.heap.size + 1) (.slice lp L.length ls))
  have HN : Hid (Nv W.heap.size (W.heap.size + 1) (hcells ⟨op, 0, 0, 0, 0, L, false⟩ (.slice lp L.length ls) (.slice none 0 0) (.slice none 0 0)) _) := hide ((unhide HN).set 5 (.slice lp L.length ls))
  have HV := hide ((unhide HV).fr fA (by simp))
  have HT := hide ((unhide HT).fr fA (by have := unhide HS; simp; omega))
  clear fA
  generalize w1.setCell ⟨W.heap.size + 1, 5, none⟩ (.slice lp L.length ls) = w1s at *
  have HX := hide (u32_any (unhide HR).cur)
  have HD2 : Hid (Rd (rU 32) xs k1 e1 (lift (rU 32) 0 xs k1 e1).1 (lift (rU 32) 0 xs k1 e1).2.1 (lift (rU 32) 0 xs k1 e1).2.2) := hide Rd.lift
  generalize lift (rU 32) 0 xs k1 e1 = L at *
  obtain ⟨y2, k2, e2⟩ := L
  dsimp only at *
  refine (unhide HX).mono ?_
  rintro _ w2 ⟨rfl, hC, hF⟩
  have HR := hide ((unhide HR).step hF hC)
  have HF := hide ((unhide HF).trans (fr_c hF))
  have HN := hide ((unhide HN).fr hF (by have := (unhide HO).c; simp; omega))
  have HV := hide ((unhide HV).fr hF (by have := (unhide HO).c; simp; omega))
  have HT := hide ((unhide HT).fr hF (by have := (unhide HO).c; have := unhide HS; simp; omega))
  clear hC hF HX
  have t0 := (unhide HN).tab 0 _ rfl
  have z0 := (unhide HV).tab 0 _ rfl
  have fz0 := ((unhide HV).room 0 (by decide)).2
  have t1 := (unhide HN).tab 1 _ rfl
  have z1 := (unhide HV).tab 1 _ rfl
  have fz1 := ((unhide HV).room 1 (by decide)).2
  have t2 := (unhide HN).tab 2 _ rfl
  have z2 := (unhide HV).tab 2 _ rfl
  have fz2 := ((unhide HV).room 2 (by decide)).2
  have t3 := (unhide HN).tab 3 _ rfl
  have z3 := (unhide HV).tab 3 _ rfl
  have fz3 := ((unhide HV).room 3 (by decide)).2
  have t4 := (unhide HN).tab 4 _ rfl
  have z4 := (unhide HV).tab 4 _ rfl
  have fz4 := ((unhide HV).room 4 (by decide)).2
  have t5 := (unhide HN).tab 5 _ rfl
  have z5 := (unhide HV).tab 5 _ rfl
  have fz5 := ((unhide HV).room 5 (by decide)).2
  have t6 := (unhide HN).tab 6 _ rfl
  have z6 := (unhide HV).tab 6 _ rfl
  have fz6 := ((unhide HV).room 6 (by decide)).2
  have t7 := (unhide HN).tab 7 _ rfl
  have z7 := (unhide HV).tab 7 _ rfl
  have fz7 := ((unhide HV).room 7 (by decide)).2
  have t8 := (unhide HN).tab 8 _ rfl
  have z8 := (unhide HV).tab 8 _ rfl
  have fz8 := ((unhide HV).room 8 (by decide)).2
  have pf := ((unhide HN).room 2 (by decide)).2
  (try dsimp only [hd0] at t0 t1 t2 t3 t4 t8)
  go_wp2_with fail
  have fA : Fr [W.heap.size + 1] w2 (w2.setCell ⟨W.heap.size + 1, 2, none⟩ (.int .u32 y2)) := (Fr.refl _ _).place _ _
  have HR := hide ((unhide HR).fr fA (unhide HO) (by simp))
  have HF := hide ((unhide HF).set 2 (Or.inr (by omega) : W.heap.size + 1 ∈ [c, rb] ∨ W.heap.size ≤ W.heap.size + 1) (.int .u32 y2))
  have HT := hide ((unhide HT).fr fA (by have := unhide HS; simp; omega))
  refine bodyPost_ret (v := .agg #[.int .i64 op, .int .u8 0, .int .u32 y2, .int .u32 0, .int .u64 0, .slice lp L.length ls, .slice none 0 0, .slice none 0 0, .bool false]) (by simp [results, Tryz.results167, go_sem, z0, z1, z2, z3, z4, z5, z6, z7, z8]) rfl ?_
  have fZ := fun w => fr_set9 w W.heap.size (.int .i64 op) (.int .u8 0) (.int .u32 y2) (.int .u32 0) (.int .u64 0) (.slice lp L.length ls) (.slice none 0 0) (.slice none 0 0) (.bool false)
  refine ⟨⟨op, 0, y2, 0, 0, L, false⟩, _, _, _, none, 0, 0, none, 0, 0, (⟨op, 0, y2, 0, 0, L, false⟩, .nil, .nil), _, _, rfl, ?_, fun _ => ⟨rfl, ((unhide HT).fr (fZ _) (by have := unhide HS; simp; omega)).mono (fun b _ hb => by have := unhide HS; omega), fov_nil _ _, fov_nil _ _⟩, (unhide HR).fr (fZ _) (unhide HO) (by simp), (unhide HF).thenL (fZ _) (by simp)⟩
  rw [show rRest (sq sat) deep op = bd inz rLab fun L => bd inz (rU 32) fun a => giv ({ hd0 op with list := L, a := a }, .nil, .nil) by unfold rRest rPlain; rw [unhide HV0]; rfl]
  exact (unhide HD1).bd ((unhide HD2).bd (Rd.giv _ _ _ _))
set_option maxHeartbeats 8000000 in
set_option maxRecDepth 100000 in
theorem instr_5 {n : Nat} {op : Int} {c rb : Nat} {a : Option Addr} {len cap : Nat} {xs : List Int} {sat : Bool} {deep k : Nat} {e : Int} {W : World} (HI : Hid (PSeq c rb a len cap xs sat n)) (h : Rs c rb a len cap xs sat deep k e W) (hk : e = 0 → len - k < n) (hb : imI op = 1 → deep < 64) (ho : op ≤ 9223372036854775807) (hv : imI op = 5) : InstrP c rb a len cap xs sat deep k e op W := by
  have HR := hide h
  have HO : Hid (Old W.heap.size c rb a len) := hide (h.old (Nat.le_refl W.heap.size))
  have HIm := hide (imm_any op ho)
  rw [hv] at HIm
  have _ := HI
  have _ := hk
  have _ := hb
  have HV0 := hide hv
  clear h hk hb hv
  unfold InstrP
  go_enter Tryz.func167, Tryz.ntmps167
  go_wp2_with fail
  have hb := below2 W (.cells #[.int .i64 0, .int .u8 0, .int .u32 0, .int .u32 0, .int .u64 0, .slice none 0 0, .slice none 0 0, .slice none 0 0, .bool false] 160) (.cells #[.int .i64 op, .int .u8 0, .int .u32 0, .int .u32 0, .int .u64 0, .slice none 0 0, .slice none 0 0, .slice none 0 0, .bool false] 160)
  have HR := hide ((unhide HR).bel hb)
  have HF := hide (Fr.of hb [c, rb])
  have HN := hide (nv_1 (W := W) op)
  have HV := hide (nv_0 (W := W) (.cells #[.int .i64 op, .int .u8 0, .int .u32 0, .int .u32 0, .int .u64 0, .slice none 0 0, .slice none 0 0, .slice none 0 0, .bool false] 160))
  generalize (W.alloc (.cells #[.int .i64 0, .int .u8 0, .int .u32 0, .int .u32 0, .int .u64 0, .slice none 0 0, .slice none 0 0, .slice none 0 0, .bool false] 160)).alloc (.cells #[.int .i64 op, .int .u8 0, .int .u32 0, .int .u32 0, .int .u64 0, .slice none 0 0, .slice none 0 0, .slice none 0 0, .bool false] 160) = wr at *
  refine ((unhide HIm) _ (unhide HR).var).mono ?_
  rintro _ w0 ⟨rfl, hb1⟩
  have HR := hide ((unhide HR).bel hb1)
  have HF := hide ((unhide HF).bel hb1)
  have HN := hide ((unhide HN).fr (Fr.of hb1 []) (by simp))
  have HV := hide ((unhide HV).fr (Fr.of hb1 []) (by simp))
  clear hb hb1 HIm
  have h0 := (unhide HR).rdr.1
  go_wp2_with fail
  clear h0
  have HX := hide (u32_any (unhide HR).cur)
  have HD1 : Hid (Rd (rU 32) xs k e (lift (rU 32) 0 xs k e).1 (lift (rU 32) 0 xs k e).2.1 (lift (rU 32) 0 xs k e).2.2) := hide Rd.lift
  generalize lift (rU 32) 0 xs k e = L at *
  obtain ⟨y1, k1, e1⟩ := L
  dsimp only at *
  refine (unhide HX).mono ?_
  rintro _ w1 ⟨rfl, hC, hF⟩
  have HR := hide ((unhide HR).step hF hC)
  have HF := hide ((unhide HF).trans (fr_c hF))
  have HN := hide ((unhide HN).fr hF (by have := (unhide HO).c; simp; omega))
  have HV := hide ((unhide HV).fr hF (by have := (unhide HO).c; simp; omega))
  clear hC hF HX
  have h0 := (unhide HR).rdr.1
  obtain ⟨⟨u, g⟩, f⟩ := (unhide HN).room 2 (by decide)
  go_wp2_with fail
  clear f g u
  clear h0
  have fA : Fr [W.heap.size + 1] w1 (w1.setCell ⟨W.heap.size + 1, 2, none⟩ (.int .u32 y1)) := (Fr.refl _ _).place _ _
  have HR := hide ((unhide HR).fr fA (unhide HO) (by simp))
  have HF := hide ((unhide HF).set 2 (Or.inr (by omega) : W.heap.size + 1 ∈ [c, rb] ∨ W.heap.size ≤ W.heap.size + 1) (.int .u32 y1))
  have HN : Hid (Nv W.heap.size (W.heap.size + 1) (hcells ⟨op, 0, y1, 0, 0, [], false⟩ (.slice none 0 0) (.slice none 0 0) (.slice none 0 0)) _) := hide ((unhide HN).set 2 (.int .u32 y1))
  have HV := hide ((unhide HV).fr fA (by simp))
  clear fA
  generalize w1.setCell ⟨W.heap.size + 1, 2, none⟩ (.int .u32 y1) = w1s at *
  refine (nought_any (unhide HR)).mono ?_
  rintro _ w2 ⟨k2, e2, rfl, hd, hR, hF⟩
  have HD2 := hide hd
  have HR := hide hR
  have HF := hide ((unhide HF).trans (fr_c hF))
  have HN := hide ((unhide HN).fr hF (by have := (unhide HO).c; simp; omega))
  have HV := hide ((unhide HV).fr hF (by have := (unhide HO).c; simp; omega))
  clear hd hR hF
  have t0 := (unhide HN).tab 0 _ rfl
  have z0 := (unhide HV).tab 0 _ rfl
  have fz0 := ((unhide HV).room 0 (by decide)).2
  have t1 := (unhide HN).tab 1 _ rfl
  have z1 := (unhide HV).tab 1 _ rfl
  have fz1 := ((unhide HV).room 1 (by decide)).2
  have t2 := (unhide HN).tab 2 _ rfl
  have z2 := (unhide HV).tab 2 _ rfl
  have fz2 := ((unhide HV).room 2 (by decide)).2
  have t3 := (unhide HN).tab 3 _ rfl
  have z3 := (unhide HV).tab 3 _ rfl
  have fz3 := ((unhide HV).room 3 (by decide)).2
  have t4 := (unhide HN).tab 4 _ rfl
  have z4 := (unhide HV).tab 4 _ rfl
  have fz4 := ((unhide HV).room 4 (by decide)).2
  have t5 := (unhide HN).tab 5 _ rfl
  have z5 := (unhide HV).tab 5 _ rfl
  have fz5 := ((unhide HV).room 5 (by decide)).2
  have t6 := (unhide HN).tab 6 _ rfl
  have z6 := (unhide HV).tab 6 _ rfl
  have fz6 := ((unhide HV).room 6 (by decide)).2
  have t7 := (unhide HN).tab 7 _ rfl
  have z7 := (unhide HV).tab 7 _ rfl
  have fz7 := ((unhide HV).room 7 (by decide)).2
  have t8 := (unhide HN).tab 8 _ rfl
  have z8 := (unhide HV).tab 8 _ rfl
  have fz8 := ((unhide HV).room 8 (by decide)).2
  (try dsimp only [hd0] at t0 t1 t2 t3 t4 t8)
  go_wp2_with fail
  refine bodyPost_ret (v := .agg #[.int .i64 op, .int .u8 0, .int .u32 y1, .int .u32 0, .int .u64 0, .slice none 0 0, .slice none 0 0, .slice none 0 0, .bool false]) (by simp [results, Tryz.results167, go_sem, z0, z1, z2, z3, z4, z5, z6, z7, z8]) rfl ?_
  have fZ := fun w => fr_set9 w W.heap.size (.int .i64 op) (.int .u8 0) (.int .u32 y1) (.int .u32 0) (.int .u64 0) (.slice none 0 0) (.slice none 0 0) (.slice none 0 0) (.bool false)
  refine ⟨⟨op, 0, y1, 0, 0, [], false⟩, _, _, _, none, 0, 0, none, 0, 0, (⟨op, 0, y1, 0, 0, [], false⟩, .nil, .nil), _, _, rfl, ?_, fun _ => ⟨rfl, slc_nil _ _, fov_nil _ _, fov_nil _ _⟩, (unhide HR).fr (fZ _) (unhide HO) (by simp), (unhide HF).thenL (fZ _) (by simp)⟩
  rw [show rRest (sq sat) deep op = bd inz (rU 32) fun a => bd inz r0 fun _ => giv ({ hd0 op with a := a }, .nil, .nil) by unfold rRest rPlain; rw [unhide HV0]; rfl]
  exact (unhide HD1).bd ((unhide HD2).bd (Rd.giv _ _ _ _))
end Go.Proofs.YtjoonmpjcophnaaGreatDoor
namespace Go.Proofs.YtjoonmpjcophnaaGreatDoor
open Go.RowKit

set_option maxHeartbeats 8000000 in
set_option maxRecDepth 100000 in
theorem instr_6 {n : Nat} {op : Int} {c rb : Nat} {a : Option Addr} {len cap : Nat} {xs : List Int} {sat : Bool} {deep k : Nat} {e : Int} {W : World} (HI : Hid (PSeq c rb a len cap xs sat n)) (h : Rs c rb a len cap xs sat deep k e W) (hk : e = 0 → len - k < n) (hb : imI op = 1 → deep < 64) (ho : op ≤ 9223372036854775807) (hv : imI op = 6) : InstrP c rb a len cap xs sat deep k e op W := by
  have HR := hide h
  have HO : Hid (Old W.heap.size c rb a len) := hide (h.old (Nat.le_refl W.heap.size))
  have HIm := hide (imm_any op ho)
  rw [hv] at HIm
  have _ := HI
  have _ := hk
  have _ := hb
  have HV0 := hide hv
  clear h hk hb hv
  unfold InstrP
  go_enter Tryz.func167, Tryz.ntmps167
  go_wp2_with fail
  have hb := below2 W (.cells #[.int .i64 0, .int .u8 0, .int .u32 0, .int .u32 0, .int .u64 0, .slice none 0 0, .slice none 0 0, .slice none 0 0, .bool false] 160) (.cells #[.int .i64 op, .int .u8 0, .int .u32 0, .int .u32 0, .int .u64 0, .slice none 0 0, .slice none 0 0, .slice none 0 0, .bool false] 160)
  have HR := hide ((unhide HR).bel hb)
  have HF := hide (Fr.of hb [c, rb])
  have HN := hide (nv_1 (W := W) op)
  have HV := hide (nv_0 (W := W) (.cells #[.int .i64 op, .int .u8 0, .int .u32 0, .int .u32 0, .int .u64 0, .slice none 0 0, .slice none 0 0, .slice none 0 0, .bool false] 160))
  generalize (W.alloc (.cells #[.int .i64 0, .int .u8 0, .int .u32 0, .int .u32 0, .int .u64 0, .slice none 0 0, .slice none 0 0, .slice none 0 0, .bool false] 160)).alloc (.cells #[.int .i64 op, .int .u8 0, .int .u32 0, .int .u32 0, .int .u64 0, .slice none 0 0, .slice none 0 0, .slice none 0 0, .bool false] 160) = wr at *
  refine ((unhide HIm) _ (unhide HR).var).mono ?_
  rintro _ w0 ⟨rfl, hb1⟩
  have HR := hide ((unhide HR).bel hb1)
  have HF := hide ((unhide HF).bel hb1)
  have HN := hide ((unhide HN).fr (Fr.of hb1 []) (by simp))
  have HV := hide ((unhide HV).fr (Fr.of hb1 []) (by simp))
  clear hb hb1 HIm
  have h0 := (unhide HR).rdr.1
  go_wp2_with fail
  clear h0
  have HX := hide (u32_any (unhide HR).cur)
  have HD1 : Hid (Rd (rU 32) xs k e (lift (rU 32) 0 xs k e).1 (lift (rU 32) 0 xs k e).2.1 (lift (rU 32) 0 xs k e).2.2) := hide Rd.lift
  generalize lift (rU 32) 0 xs k e = L at *
  obtain ⟨y1, k1, e1⟩ := L
  dsimp only at *
  refine (unhide HX).mono ?_
  rintro _ w1 ⟨rfl, hC, hF⟩
  have HR := hide ((unhide HR).step hF hC)
  have HF := hide ((unhide HF).trans (fr_c hF))
  have HN := hide ((unhide HN).fr hF (by have := (unhide HO).c; simp; omega))
  have HV := hide ((unhide HV).fr hF (by have := (unhide HO).c; simp; omega))
  clear hC hF HX
  have h0 := (unhide HR).rdr.1
  obtain ⟨⟨u, g⟩, f⟩ := (unhide HN).room 2 (by decide)
  go_wp2_with fail
  clear f g u
  clear h0
  have fA : Fr [W.heap.size + 1] w1 (w1.setCell ⟨W.heap.size + 1, 2, none⟩ (.int .u32 y1)) := (Fr.refl _ _).place _ _
  have HR := hide ((unhide HR).fr fA (unhide HO) (by simp))
  have HF := hide ((unhide HF).set 2 (Or.inr (by omega) : W.heap.size + 1 ∈ [c, rb] ∨ W.heap.size ≤ W.heap.size + 1) (.int .u32 y1))
  have HN : Hid (Nv W.heap.size (W.heap.size + 1) (hcells ⟨op, 0, y1, 0, 0, [], false⟩ (.slice none 0 0) (.slice none 0 0) (.slice none 0 0)) _) := hide ((unhide HN).set 2 (.int .u32 y1))
  have HV := hide ((unhide HV).fr fA (by simp))
  clear fA
  generalize w1.setCell ⟨W.heap.size + 1, 2, none⟩ (.int .u32 y1) = w1s at *
  have HX := hide (u32_any (unhide HR).cur)
  have HD2 : Hid (Rd (rU 32) xs k1 e1 (lift (rU 32) 0 xs k1 e1).1 (lift (rU 32) 0 xs k1 e1).2.1 (lift (rU 32) 0 xs k1 e1).2.2) := hide Rd.lift
  generalize lift (rU 32) 0 xs k1 e1 = L at *
  obtain ⟨y2, k2, e2⟩ := L
  dsimp only at *
  refine (unhide HX).mono ?_
  rintro _ w2 ⟨rfl, hC, hF⟩
  have HR := hide ((unhide HR).step hF hC)
  have HF := hide ((unhide HF).trans (fr_c hF))
  have HN := hide ((unhide HN).fr hF (by have := (unhide HO).c; simp; omega))
  have HV := hide ((unhide HV).fr hF (by have := (unhide HO).c; simp; omega))
  clear hC hF HX
  have t0 := (unhide HN).tab 0 _ rfl
  have z0 := (unhide HV).tab 0 _ rfl
  have fz0 := ((unhide HV).room 0 (by decide)).2
  have t1 := (unhide HN).tab 1 _ rfl
  have z1 := (unhide HV).tab 1 _ rfl
  have fz1 := ((unhide HV).room 1 (by decide)).2
  have t2 := (unhide HN).tab 2 _ rfl
  have z2 := (unhide HV).tab 2 _ rfl
  have fz2 := ((unhide HV).room 2 (by decide)).2
  have t3 := (unhide HN).tab 3 _ rfl
  have z3 := (unhide HV).tab 3 _ rfl
  have fz3 := ((unhide HV).room 3 (by decide)).2
  have t4 := (unhide HN).tab 4 _ rfl
  have z4 := (unhide HV).tab 4 _ rfl
  have fz4 := ((unhide HV).room 4 (by decide)).2
  have t5 := (unhide HN).tab 5 _ rfl
  have z5 := (unhide HV).tab 5 _ rfl
  have fz5 := ((unhide HV).room 5 (by decide)).2
  have t6 := (unhide HN).tab 6 _ rfl
  have z6 := (unhide HV).tab 6 _ rfl
  have fz6 := ((unhide HV).room 6 (by decide)).2
  have t7 := (unhide HN).tab 7 _ rfl
  have z7 := (unhide HV).tab 7 _ rfl
  have fz7 := ((unhide HV).room 7 (by decide)).2
  have t8 := (unhide HN).tab 8 _ rfl
  have z8 := (unhide HV).tab 8 _ rfl
  have fz8 := ((unhide HV).room 8 (by decide)).2
  have pf := ((unhide HN).room 3 (by decide)).2
  (try dsimp only [hd0] at t0 t1 t2 t3 t4 t8)
  go_wp2_with fail
  have fA : Fr [W.heap.size + 1] w2 (w2.setCell ⟨W.heap.size + 1, 3, none⟩ (.int .u32 y2)) := (Fr.refl _ _).place _ _
  have HR := hide ((unhide HR).fr fA (unhide HO) (by simp))
  have HF := hide ((unhide HF).set 3 (Or.inr (by omega) : W.heap.size + 1 ∈ [c, rb] ∨ W.heap.size ≤ W.heap.size + 1) (.int .u32 y2))
  refine bodyPost_ret (v := .agg #[.int .i64 op, .int .u8 0, .int .u32 y1, .int .u32 y2, .int .u64 0, .slice none 0 0, .slice none 0 0, .slice none 0 0, .bool false]) (by simp [results, Tryz.results167, go_sem, z0, z1, z2, z3, z4, z5, z6, z7, z8]) rfl ?_
  have fZ := fun w => fr_set9 w W.heap.size (.int .i64 op) (.int .u8 0) (.int .u32 y1) (.int .u32 y2) (.int .u64 0) (.slice none 0 0) (.slice none 0 0) (.slice none 0 0) (.bool false)
  refine ⟨⟨op, 0, y1, y2, 0, [], false⟩, _, _, _, none, 0, 0, none, 0, 0, (⟨op, 0, y1, y2, 0, [], false⟩, .nil, .nil), _, _, rfl, ?_, fun _ => ⟨rfl, slc_nil _ _, fov_nil _ _, fov_nil _ _⟩, (unhide HR).fr (fZ _) (unhide HO) (by simp), (unhide HF).thenL (fZ _) (by simp)⟩
  rw [show rRest (sq sat) deep op = bd inz (rU 32) fun a => bd inz (rU 32) fun b => giv ({ hd0 op with a := a, b := b }, .nil, .nil) by unfold rRest rPlain; rw [unhide HV0]; rfl]
  exact (unhide HD1).bd ((unhide HD2).bd (Rd.giv _ _ _ _))
set_option maxHeartbeats 8000000 in
set_option maxRecDepth 100000 in
theorem instr_7 {n : Nat} {op : Int} {c rb : Nat} {a : Option Addr} {len cap : Nat} {xs : List Int} {sat : Bool} {deep k : Nat} {e : Int} {W : World} (HI : Hid (PSeq c rb a len cap xs sat n)) (h : Rs c rb a len cap xs sat deep k e W) (hk : e = 0 → len - k < n) (hb : imI op = 1 → deep < 64) (ho : op ≤ 9223372036854775807) (hv : imI op = 7) : InstrP c rb a len cap xs sat deep k e op W := by
  have HR := hide h
  have HO : Hid (Old W.heap.size c rb a len) := hide (h.old (Nat.le_refl W.heap.size))
  have HIm := hide (imm_any op ho)
  rw [hv] at HIm
  have _ := HI
  have _ := hk
  have _ := hb
  have HV0 := hide hv
  clear h hk hb hv
  unfold InstrP
  go_enter Tryz.func167, Tryz.ntmps167
  go_wp2_with fail
  have hb := below2 W (.cells #[.int .i64 0, .int .u8 0, .int .u32 0, .int .u32 0, .int .u64 0, .slice none 0 0, .slice none 0 0, .slice none 0 0, .bool false] 160) (.cells #[.int .i64 op, .int .u8 0, .int .u32 0, .int .u32 0, .int .u64 0, .slice none 0 0, .slice none 0 0, .slice none 0 0, .bool false] 160)
  have HR := hide ((unhide HR).bel hb)
  have HF := hide (Fr.of hb [c, rb])
  have HN := hide (nv_1 (W := W) op)
  have HV := hide (nv_0 (W := W) (.cells #[.int .i64 op, .int .u8 0, .int .u32 0, .int .u32 0, .int .u64 0, .slice none 0 0, .slice none 0 0, .slice none 0 0, .bool false] 160))
  generalize (W.alloc (.cells #[.int .i64 0, .int .u8 0, .int .u32 0, .int .u32 0, .int .u64 0, .slice none 0 0, .slice none 0 0, .slice none 0 0, .bool false] 160)).alloc (.cells #[.int .i64 op, .int .u8 0, .int .u32 0, .int .u32 0, .int .u64 0, .slice none 0 0, .slice none 0 0, .slice none 0 0, .bool false] 160) = wr at *
  refine ((unhide HIm) _ (unhide HR).var).mono ?_
  rintro _ w0 ⟨rfl, hb1⟩
  have HR := hide ((unhide HR).bel hb1)
  have HF := hide ((unhide HF).bel hb1)
  have HN := hide ((unhide HN).fr (Fr.of hb1 []) (by simp))
  have HV := hide ((unhide HV).fr (Fr.of hb1 []) (by simp))
  clear hb hb1 HIm
  have h0 := (unhide HR).rdr.1
  go_wp2_with fail
  clear h0
  refine (nought_any (unhide HR)).mono ?_
  rintro _ w1 ⟨k1, e1, rfl, hd, hR, hF⟩
  have HD1 := hide hd
  have HR := hide hR
  have HF := hide ((unhide HF).trans (fr_c hF))
  have HN := hide ((unhide HN).fr hF (by have := (unhide HO).c; simp; omega))
  have HV := hide ((unhide HV).fr hF (by have := (unhide HO).c; simp; omega))
  clear hd hR hF
  have t0 := (unhide HN).tab 0 _ rfl
  have z0 := (unhide HV).tab 0 _ rfl
  have fz0 := ((unhide HV).room 0 (by decide)).2
  have t1 := (unhide HN).tab 1 _ rfl
  have z1 := (unhide HV).tab 1 _ rfl
  have fz1 := ((unhide HV).room 1 (by decide)).2
  have t2 := (unhide HN).tab 2 _ rfl
  have z2 := (unhide HV).tab 2 _ rfl
  have fz2 := ((unhide HV).room 2 (by decide)).2
  have t3 := (unhide HN).tab 3 _ rfl
  have z3 := (unhide HV).tab 3 _ rfl
  have fz3 := ((unhide HV).room 3 (by decide)).2
  have t4 := (unhide HN).tab 4 _ rfl
  have z4 := (unhide HV).tab 4 _ rfl
  have fz4 := ((unhide HV).room 4 (by decide)).2
  have t5 := (unhide HN).tab 5 _ rfl
  have z5 := (unhide HV).tab 5 _ rfl
  have fz5 := ((unhide HV).room 5 (by decide)).2
  have t6 := (unhide HN).tab 6 _ rfl
  have z6 := (unhide HV).tab 6 _ rfl
  have fz6 := ((unhide HV).room 6 (by decide)).2
  have t7 := (unhide HN).tab 7 _ rfl
  have z7 := (unhide HV).tab 7 _ rfl
  have fz7 := ((unhide HV).room 7 (by decide)).2
  have t8 := (unhide HN).tab 8 _ rfl
  have z8 := (unhide HV).tab 8 _ rfl
  have fz8 := ((unhide HV).room 8 (by decide)).2
  dsimp only [hd0] at t0 t1 t2 t3 t4 t8
  go_wp2_with fail
  refine bodyPost_ret (v := .agg #[.int .i64 op, .int .u8 0, .int .u32 0, .int .u32 0, .int .u64 0, .slice none 0 0, .slice none 0 0, .slice none 0 0, .bool false]) (by simp [results, Tryz.results167, go_sem, z0, z1, z2, z3, z4, z5, z6, z7, z8]) rfl ?_
  have fZ := fun w => fr_set9 w W.heap.size (.int .i64 op) (.int .u8 0) (.int .u32 0) (.int .u32 0) (.int .u64 0) (.slice none 0 0) (.slice none 0 0) (.slice none 0 0) (.bool false)
  refine ⟨⟨op, 0, 0, 0, 0, [], false⟩, _, _, _, none, 0, 0, none, 0, 0, (⟨op, 0, 0, 0, 0, [], false⟩, .nil, .nil), _, _, rfl, ?_, fun _ => ⟨rfl, slc_nil _ _, fov_nil _ _, fov_nil _ _⟩, (unhide HR).fr (fZ _) (unhide HO) (by simp), (unhide HF).thenL (fZ _) (by simp)⟩
  rw [show rRest (sq sat) deep op = bd inz r0 fun _ => giv (hd0 op, .nil, .nil) by unfold rRest rPlain; rw [unhide HV0]; rfl]
  exact (unhide HD1).bd (Rd.giv _ _ _ _)
set_option maxHeartbeats 8000000 in
set_option maxRecDepth 100000 in
theorem instr_8 {n : Nat} {op : Int} {c rb : Nat} {a : Option Addr} {len cap : Nat} {xs : List Int} {sat : Bool} {deep k : Nat} {e : Int} {W : World} (HI : Hid (PSeq c rb a len cap xs sat n)) (h : Rs c rb a len cap xs sat deep k e W) (hk : e = 0 → len - k < n) (hb : imI op = 1 → deep < 64) (ho : op ≤ 9223372036854775807) (hv : imI op = 8) : InstrP c rb a len cap xs sat deep k e op W := by
  have HR := hide h
  have HO : Hid (Old W.heap.size c rb a len) := hide (h.old (Nat.le_refl W.heap.size))
  have HIm := hide (imm_any op ho)
  rw [hv] at HIm
  have _ := HI
  have _ := hk
  have _ := hb
  have HV0 := hide hv
  clear h hk hb hv
  unfold InstrP
  go_enter Tryz.func167, Tryz.ntmps167
  go_wp2_with fail
  have hb := below2 W (.cells #[.int .i64 0, .int .u8 0, .int .u32 0, .int .u32 0, .int .u64 0, .slice none 0 0, .slice none 0 0, .slice none 0 0, .bool false] 160) (.cells #[.int .i64 op, .int .u8 0, .int .u32 0, .int .u32 0, .int .u64 0, .slice none 0 0, .slice none 0 0, .slice none 0 0, .bool false] 160)
  have HR := hide ((unhide HR).bel hb)
  have HF := hide (Fr.of hb [c, rb])
  have HN := hide (nv_1 (W := W) op)
  have HV := hide (nv_0 (W := W) (.cells #[.int .i64 op, .int .u8 0, .int .u32 0, .int .u32 0, .int .u64 0, .slice none 0 0, .slice none 0 0, .slice none 0 0, .bool false] 160))
  generalize (W.alloc (.cells #[.int .i64 0, .int .u8 0, .int .u32 0, .int .u32 0, .int .u64 0, .slice none 0 0, .slice none 0 0, .slice none 0 0, .bool false] 160)).alloc (.cells #[.int .i64 op, .int .u8 0, .int .u32 0, .int .u32 0, .int .u64 0, .slice none 0 0, .slice none 0 0, .slice none 0 0, .bool false] 160) = wr at *
  refine ((unhide HIm) _ (unhide HR).var).mono ?_
  rintro _ w0 ⟨rfl, hb1⟩
  have HR := hide ((unhide HR).bel hb1)
  have HF := hide ((unhide HF).bel hb1)
  have HN := hide ((unhide HN).fr (Fr.of hb1 []) (by simp))
  have HV := hide ((unhide HV).fr (Fr.of hb1 []) (by simp))
  clear hb hb1 HIm
  have h0 := (unhide HR).rdr.1
  go_wp2_with fail
  clear h0
  obtain ⟨y1, k1, e1, hd, hs, hx⟩ := s32b (unhide HR).cur
  have HX := hide hx
  have HD1 := hide hd
  have i64w : IntKind.u64.wrap y1 = y1 := u64_id (by omega) (by omega)
  clear hx hd
  refine (unhide HX).mono ?_
  rintro _ w1 ⟨rfl, hC, hF⟩
  have HR := hide ((unhide HR).step hF hC)
  have HF := hide ((unhide HF).trans (fr_c hF))
  have HN := hide ((unhide HN).fr hF (by have := (unhide HO).c; simp; omega))
  have HV := hide ((unhide HV).fr hF (by have := (unhide HO).c; simp; omega))
  clear hC hF HX
  have t0 := (unhide HN).tab 0 _ rfl
  have z0 := (unhide HV).tab 0 _ rfl
  have fz0 := ((unhide HV).room 0 (by decide)).2
  have t1 := (unhide HN).tab 1 _ rfl
  have z1 := (unhide HV).tab 1 _ rfl
  have fz1 := ((unhide HV).room 1 (by decide)).2
  have t2 := (unhide HN).tab 2 _ rfl
  have z2 := (unhide HV).tab 2 _ rfl
  have fz2 := ((unhide HV).room 2 (by decide)).2
  have t3 := (unhide HN).tab 3 _ rfl
  have z3 := (unhide HV).tab 3 _ rfl
  have fz3 := ((unhide HV).room 3 (by decide)).2
  have t4 := (unhide HN).tab 4 _ rfl
  have z4 := (unhide HV).tab 4 _ rfl
  have fz4 := ((unhide HV).room 4 (by decide)).2
  have t5 := (unhide HN).tab 5 _ rfl
  have z5 := (unhide HV).tab 5 _ rfl
  have fz5 := ((unhide HV).room 5 (by decide)).2
  have t6 := (unhide HN).tab 6 _ rfl
  have z6 := (unhide HV).tab 6 _ rfl
  have fz6 := ((unhide HV).room 6 (by decide)).2
  have t7 := (unhide HN).tab 7 _ rfl
  have z7 := (unhide HV).tab 7 _ rfl
  have fz7 := ((unhide HV).room 7 (by decide)).2
  have t8 := (unhide HN).tab 8 _ rfl
  have z8 := (unhide HV).tab 8 _ rfl
  have fz8 := ((unhide HV).room 8 (by decide)).2
  have pf := ((unhide HN).room 4 (by decide)).2
  dsimp only [hd0] at t0 t1 t2 t3 t4 t8
  go_wp2_with fail
  have fA : Fr [W.heap.size + 1] w1 (w1.setCell ⟨W.heap.size + 1, 4, none⟩ (.int .u64 y1)) := (Fr.refl _ _).place _ _
  have HR := hide ((unhide HR).fr fA (unhide HO) (by simp))
  have HF := hide ((unhide HF).set 4 (Or.inr (by omega) : W.heap.size + 1 ∈ [c, rb] ∨ W.heap.size ≤ W.heap.size + 1) (.int .u64 y1))
  refine bodyPost_ret (v := .agg #[.int .i64 op, .int .u8 0, .int .u32 0, .int .u32 0, .int .u64 y1, .slice none 0 0, .slice none 0 0, .slice none 0 0, .bool false]) (by simp [results, Tryz.results167, go_sem, z0, z1, z2, z3, z4, z5, z6, z7, z8]) rfl ?_
  have fZ := fun w => fr_set9 w W.heap.size (.int .i64 op) (.int .u8 0) (.int .u32 0) (.int .u32 0) (.int .u64 y1) (.slice none 0 0) (.slice none 0 0) (.slice none 0 0) (.bool false)
  refine ⟨⟨op, 0, 0, 0, y1, [], false⟩, _, _, _, none, 0, 0, none, 0, 0, (⟨op, 0, 0, 0, y1, [], false⟩, .nil, .nil), _, _, rfl, ?_, fun _ => ⟨rfl, slc_nil _ _, fov_nil _ _, fov_nil _ _⟩, (unhide HR).fr (fZ _) (unhide HO) (by simp), (unhide HF).thenL (fZ _) (by simp)⟩
  rw [show rRest (sq sat) deep op = bd inz rS32 fun x => giv ({ hd0 op with bits := x }, .nil, .nil) by unfold rRest rPlain; rw [unhide HV0]; rfl]
  exact (unhide HD1).bd (Rd.giv _ _ _ _)
set_option maxHeartbeats 8000000 in
set_option maxRecDepth 100000 in
theorem instr_9 {n : Nat} {op : Int} {c rb : Nat} {a : Option Addr} {len cap : Nat} {xs : List Int} {sat : Bool} {deep k : Nat} {e : Int} {W : World} (HI : Hid (PSeq c rb a len cap xs sat n)) (h : Rs c rb a len cap xs sat deep k e W) (hk : e = 0 → len - k < n) (hb : imI op = 1 → deep < 64) (ho : op ≤ 9223372036854775807) (hv : imI op = 9) : InstrP c rb a len cap xs sat deep k e op W := by
  have HR := hide h
  have HO : Hid (Old W.heap.size c rb a len) := hide (h.old (Nat.le_refl W.heap.size))
  have HIm := hide (imm_any op ho)
  rw [hv] at HIm
  have _ := HI
  have _ := hk
  have _ := hb
  have HV0 := hide hv
  clear h hk hb hv
  unfold InstrP
  go_enter Tryz.func167, Tryz.ntmps167
  go_wp2_with fail
  have hb := below2 W (.cells #[.int .i64 0, .int .u8 0, .int .u32 0, .int .u32 0, .int .u64 0, .slice none 0 0, .slice none 0 0, .slice none 0 0, .bool false] 160) (.cells #[.int .i64 op, .int .u8 0, .int .u32 0, .int .u32 0, .int .u64 0, .slice none 0 0, .slice none 0 0, .slice none 0 0, .bool false] 160)
  have HR := hide ((unhide HR).bel hb)
  have HF := hide (Fr.of hb [c, rb])
  have HN := hide (nv_1 (W := W) op)
  have HV := hide (nv_0 (W := W) (.cells #[.int .i64 op, .int .u8 0, .int .u32 0, .int .u32 0, .int .u64 0, .slice none 0 0, .slice none 0 0, .slice none 0 0, .bool false] 160))
  generalize (W.alloc (.cells #[.int .i64 0, .int .u8 0, .int .u32 0, .int .u32 0, .int .u64 0, .slice none 0 0, .slice none 0 0, .slice none 0 0, .bool false] 160)).alloc (.cells #[.int .i64 op, .int .u8 0, .int .u32 0, .int .u32 0, .int .u64 0, .slice none 0 0, .slice none 0 0, .slice none 0 0, .bool false] 160) = wr at *
  refine ((unhide HIm) _ (unhide HR).var).mono ?_
  rintro _ w0 ⟨rfl, hb1⟩
  have HR := hide ((unhide HR).bel hb1)
  have HF := hide ((unhide HF).bel hb1)
  have HN := hide ((unhide HN).fr (Fr.of hb1 []) (by simp))
  have HV := hide ((unhide HV).fr (Fr.of hb1 []) (by simp))
  clear hb hb1 HIm
  have h0 := (unhide HR).rdr.1
  go_wp2_with fail
  clear h0
  have HX := hide (s64_any (unhide HR).cur)
  have HD1 : Hid (Rd (rS 64) xs k e (lift (rS 64) 0 xs k e).1 (lift (rS 64) 0 xs k e).2.1 (lift (rS 64) 0 xs k e).2.2) := hide Rd.lift
  generalize lift (rS 64) 0 xs k e = L at *
  obtain ⟨y1, k1, e1⟩ := L
  dsimp only at *
  refine (unhide HX).mono ?_
  rintro _ w1 ⟨rfl, hC, hF⟩
  have HR := hide ((unhide HR).step hF hC)
  have HF := hide ((unhide HF).trans (fr_c hF))
  have HN := hide ((unhide HN).fr hF (by have := (unhide HO).c; simp; omega))
  have HV := hide ((unhide HV).fr hF (by have := (unhide HO).c; simp; omega))
  clear hC hF HX
  have t0 := (unhide HN).tab 0 _ rfl
  have z0 := (unhide HV).tab 0 _ rfl
  have fz0 := ((unhide HV).room 0 (by decide)).2
  have t1 := (unhide HN).tab 1 _ rfl
  have z1 := (unhide HV).tab 1 _ rfl
  have fz1 := ((unhide HV).room 1 (by decide)).2
  have t2 := (unhide HN).tab 2 _ rfl
  have z2 := (unhide HV).tab 2 _ rfl
  have fz2 := ((unhide HV).room 2 (by decide)).2
  have t3 := (unhide HN).tab 3 _ rfl
  have z3 := (unhide HV).tab 3 _ rfl
  have fz3 := ((unhide HV).room 3 (by decide)).2
  have t4 := (unhide HN).tab 4 _ rfl
  have z4 := (unhide HV).tab 4 _ rfl
  have fz4 := ((unhide HV).room 4 (by decide)).2
  have t5 := (unhide HN).tab 5 _ rfl
  have z5 := (unhide HV).tab 5 _ rfl
  have fz5 := ((unhide HV).room 5 (by decide)).2
  have t6 := (unhide HN).tab 6 _ rfl
  have z6 := (unhide HV).tab 6 _ rfl
  have fz6 := ((unhide HV).room 6 (by decide)).2
  have t7 := (unhide HN).tab 7 _ rfl
  have z7 := (unhide HV).tab 7 _ rfl
  have fz7 := ((unhide HV).room 7 (by decide)).2
  have t8 := (unhide HN).tab 8 _ rfl
  have z8 := (unhide HV).tab 8 _ rfl
  have fz8 := ((unhide HV).room 8 (by decide)).2
  have pf := ((unhide HN).room 4 (by decide)).2
  dsimp only [hd0] at t0 t1 t2 t3 t4 t8
  go_wp2_with fail
  have fA : Fr [W.heap.size + 1] w1 (w1.setCell ⟨W.heap.size + 1, 4, none⟩ (.int .u64 y1)) := (Fr.refl _ _).place _ _
  have HR := hide ((unhide HR).fr fA (unhide HO) (by simp))
  have HF := hide ((unhide HF).set 4 (Or.inr (by omega) : W.heap.size + 1 ∈ [c, rb] ∨ W.heap.size ≤ W.heap.size + 1) (.int .u64 y1))
  refine bodyPost_ret (v := .agg #[.int .i64 op, .int .u8 0, .int .u32 0, .int .u32 0, .int .u64 y1, .slice none 0 0, .slice none 0 0, .slice none 0 0, .bool false]) (by simp [results, Tryz.results167, go_sem, z0, z1, z2, z3, z4, z5, z6, z7, z8]) rfl ?_
  have fZ := fun w => fr_set9 w W.heap.size (.int .i64 op) (.int .u8 0) (.int .u32 0) (.int .u32 0) (.int .u64 y1) (.slice none 0 0) (.slice none 0 0) (.slice none 0 0) (.bool false)
  refine ⟨⟨op, 0, 0, 0, y1, [], false⟩, _, _, _, none, 0, 0, none, 0, 0, (⟨op, 0, 0, 0, y1, [], false⟩, .nil, .nil), _, _, rfl, ?_, fun _ => ⟨rfl, slc_nil _ _, fov_nil _ _, fov_nil _ _⟩, (unhide HR).fr (fZ _) (unhide HO) (by simp), (unhide HF).thenL (fZ _) (by simp)⟩
  rw [show rRest (sq sat) deep op = bd inz (rS 64) fun x => giv ({ hd0 op with bits := x }, .nil, .nil) by unfold rRest rPlain; rw [unhide HV0]; rfl]
  exact (unhide HD1).bd (Rd.giv _ _ _ _)
set_option maxHeartbeats 8000000 in
set_option maxRecDepth 100000 in
theorem instr_10 {n : Nat} {op : Int} {c rb : Nat} {a : Option Addr} {len cap : Nat} {xs : List Int} {sat : Bool} {deep k : Nat} {e : Int} {W : World} (HI : Hid (PSeq c rb a len cap xs sat n)) (h : Rs c rb a len cap xs sat deep k e W) (hk : e = 0 → len - k < n) (hb : imI op = 1 → deep < 64) (ho : op ≤ 9223372036854775807) (hv : imI op = 10) : InstrP c rb a len cap xs sat deep k e op W := by
  have HR := hide h
  have HO : Hid (Old W.heap.size c rb a len) := hide (h.old (Nat.le_refl W.heap.size))
  have HIm := hide (imm_any op ho)
  rw [hv] at HIm
  have _ := HI
  have _ := hk
  have _ := hb
  have HV0 := hide hv
  clear h hk hb hv
  unfold InstrP
  go_enter Tryz.func167, Tryz.ntmps167
  go_wp2_with fail
  have hb := below2 W (.cells #[.int .i64 0, .int .u8 0, .int .u32 0, .int .u32 0, .int .u64 0, .slice none 0 0, .slice none 0 0, .slice none 0 0, .bool false] 160) (.cells #[.int .i64 op, .int .u8 0, .int .u32 0, .int .u32 0, .int .u64 0, .slice none 0 0, .slice none 0 0, .slice none 0 0, .bool false] 160)
  have HR := hide ((unhide HR).bel hb)
  have HF := hide (Fr.of hb [c, rb])
  have HN := hide (nv_1 (W := W) op)
  have HV := hide (nv_0 (W := W) (.cells #[.int .i64 op, .int .u8 0, .int .u32 0, .int .u32 0, .int .u64 0, .slice none 0 0, .slice none 0 0, .slice none 0 0, .bool false] 160))
  generalize (W.alloc (.cells #[.int .i64 0, .int .u8 0, .int .u32 0, .int .u32 0, .int .u64 0, .slice none 0 0, .slice none 0 0, .slice none 0 0, .bool false] 160)).alloc (.cells #[.int .i64 op, .int .u8 0, .int .u32 0, .int .u32 0, .int .u64 0, .slice none 0 0, .slice none 0 0, .slice none 0 0, .bool false] 160) = wr at *
  refine ((unhide HIm) _ (unhide HR).var).mono ?_
  rintro _ w0 ⟨rfl, hb1⟩
  have HR := hide ((unhide HR).bel hb1)
  have HF := hide ((unhide HF).bel hb1)
  have HN := hide ((unhide HN).fr (Fr.of hb1 []) (by simp))
  have HV := hide ((unhide HV).fr (Fr.of hb1 []) (by simp))
  clear hb hb1 HIm
  have h0 := (unhide HR).rdr.1
  go_wp2_with fail
  clear h0
  have HX := hide (fixed4_any (unhide HR).cur)
  have HD1 : Hid (Rd (rL 4) xs k e (lift (rL 4) 0 xs k e).1 (lift (rL 4) 0 xs k e).2.1 (lift (rL 4) 0 xs k e).2.2) := hide Rd.lift
  generalize lift (rL 4) 0 xs k e = L at *
  obtain ⟨y1, k1, e1⟩ := L
  dsimp only at *
  refine (unhide HX).mono ?_
  rintro _ w1 ⟨rfl, hC, hF⟩
  have HR := hide ((unhide HR).step hF hC)
  have HF := hide ((unhide HF).trans (fr_c hF))
  have HN := hide ((unhide HN).fr hF (by have := (unhide HO).c; simp; omega))
  have HV := hide ((unhide HV).fr hF (by have := (unhide HO).c; simp; omega))
  clear hC hF HX
  have t0 := (unhide HN).tab 0 _ rfl
  have z0 := (unhide HV).tab 0 _ rfl
  have fz0 := ((unhide HV).room 0 (by decide)).2
  have t1 := (unhide HN).tab 1 _ rfl
  have z1 := (unhide HV).tab 1 _ rfl
  have fz1 := ((unhide HV).room 1 (by decide)).2
  have t2 := (unhide HN).tab 2 _ rfl
  have z2 := (unhide HV).tab 2 _ rfl
  have fz2 := ((unhide HV).room 2 (by decide)).2
  have t3 := (unhide HN).tab 3 _ rfl
  have z3 := (unhide HV).tab 3 _ rfl
  have fz3 := ((unhide HV).room 3 (by decide)).2
  have t4 := (unhide HN).tab 4 _ rfl
  have z4 := (unhide HV).tab 4 _ rfl
  have fz4 := ((unhide HV).room 4 (by decide)).2
  have t5 := (unhide HN).tab 5 _ rfl
  have z5 := (unhide HV).tab 5 _ rfl
  have fz5 := ((unhide HV).room 5 (by decide)).2
  have t6 := (unhide HN).tab 6 _ rfl
  have z6 := (unhide HV).tab 6 _ rfl
  have fz6 := ((unhide HV).room 6 (by decide)).2
  have t7 := (unhide HN).tab 7 _ rfl
  have z7 := (unhide HV).tab 7 _ rfl
  have fz7 := ((unhide HV).room 7 (by decide)).2
  have t8 := (unhide HN).tab 8 _ rfl
  have z8 := (unhide HV).tab 8 _ rfl
  have fz8 := ((unhide HV).room 8 (by decide)).2
  have pf := ((unhide HN).room 4 (by decide)).2
  dsimp only [hd0] at t0 t1 t2 t3 t4 t8
  go_wp2_with fail
  have fA : Fr [W.heap.size + 1] w1 (w1.setCell ⟨W.heap.size + 1, 4, none⟩ (.int .u64 y1)) := (Fr.refl _ _).place _ _
  have HR := hide ((unhide HR).fr fA (unhide HO) (by simp))
  have HF := hide ((unhide HF).set 4 (Or.inr (by omega) : W.heap.size + 1 ∈ [c, rb] ∨ W.heap.size ≤ W.heap.size + 1) (.int .u64 y1))
  refine bodyPost_ret (v := .agg #[.int .i64 op, .int .u8 0, .int .u32 0, .int .u32 0, .int .u64 y1, .slice none 0 0, .slice none 0 0, .slice none 0 0, .bool false]) (by simp [results, Tryz.results167, go_sem, z0, z1, z2, z3, z4, z5, z6, z7, z8]) rfl ?_
  have fZ := fun w => fr_set9 w W.heap.size (.int .i64 op) (.int .u8 0) (.int .u32 0) (.int .u32 0) (.int .u64 y1) (.slice none 0 0) (.slice none 0 0) (.slice none 0 0) (.bool false)
  refine ⟨⟨op, 0, 0, 0, y1, [], false⟩, _, _, _, none, 0, 0, none, 0, 0, (⟨op, 0, 0, 0, y1, [], false⟩, .nil, .nil), _, _, rfl, ?_, fun _ => ⟨rfl, slc_nil _ _, fov_nil _ _, fov_nil _ _⟩, (unhide HR).fr (fZ _) (unhide HO) (by simp), (unhide HF).thenL (fZ _) (by simp)⟩
  rw [show rRest (sq sat) deep op = bd inz (rL 4) fun x => giv ({ hd0 op with bits := x }, .nil, .nil) by unfold rRest rPlain; rw [unhide HV0]; rfl]
  exact (unhide HD1).bd (Rd.giv _ _ _ _)
set_option maxHeartbeats 8000000 in
set_option maxRecDepth 100000 in
theorem instr_11 {n : Nat} {op : Int} {c rb : Nat} {a : Option Addr} {len cap : Nat} {xs : List Int} {sat : Bool} {deep k : Nat} {e : Int} {W : World} (HI : Hid (PSeq c rb a len cap xs sat n)) (h : Rs c rb a len cap xs sat deep k e W) (hk : e = 0 → len - k < n) (hb : imI op = 1 → deep < 64) (ho : op ≤ 9223372036854775807) (hv : imI op = 11) : InstrP c rb a len cap xs sat deep k e op W := by
  have HR := hide h
  have HO : Hid (Old W.heap.size c rb a len) := hide (h.old (Nat.le_refl W.heap.size))
  have HIm := hide (imm_any op ho)
  rw [hv] at HIm
  have _ := HI
  have _ := hk
  have _ := hb
  have HV0 := hide hv
  clear h hk hb hv
  unfold InstrP
  go_enter Tryz.func167, Tryz.ntmps167
  go_wp2_with fail
  have hb := below2 W (.cells #[.int .i64 0, .int .u8 0, .int .u32 0, .int .u32 0, .int .u64 0, .slice none 0 0, .slice none 0 0, .slice none 0 0, .bool false] 160) (.cells #[.int .i64 op, .int .u8 0, .int .u32 0, .int .u32 0, .int .u64 0, .slice none 0 0, .slice none 0 0, .slice none 0 0, .bool false] 160)
  have HR := hide ((unhide HR).bel hb)
  have HF := hide (Fr.of hb [c, rb])
  have HN := hide (nv_1 (W := W) op)
  have HV := hide (nv_0 (W := W) (.cells #[.int .i64 op, .int .u8 0, .int .u32 0, .int .u32 0, .int .u64 0, .slice none 0 0, .slice none 0 0, .slice none 0 0, .bool false] 160))
  generalize (W.alloc (.cells #[.int .i64 0, .int .u8 0, .int .u32 0, .int .u32 0, .int .u64 0, .slice none 0 0, .slice none 0 0, .slice none 0 0, .bool false] 160)).alloc (.cells #[.int .i64 op, .int .u8 0, .int .u32 0, .int .u32 0, .int .u64 0, .slice none 0 0, .slice none 0 0, .slice none 0 0, .bool false] 160) = wr at *
  refine ((unhide HIm) _ (unhide HR).var).mono ?_
  rintro _ w0 ⟨rfl, hb1⟩
  have HR := hide ((unhide HR).bel hb1)
  have HF := hide ((unhide HF).bel hb1)
  have HN := hide ((unhide HN).fr (Fr.of hb1 []) (by simp))
  have HV := hide ((unhide HV).fr (Fr.of hb1 []) (by simp))
  clear hb hb1 HIm
  have h0 := (unhide HR).rdr.1
  go_wp2_with fail
  clear h0
  have HX := hide (fixed8_any (unhide HR).cur)
  have HD1 : Hid (Rd (rL 8) xs k e (lift (rL 8) 0 xs k e).1 (lift (rL 8) 0 xs k e).2.1 (lift (rL 8) 0 xs k e).2.2) := hide Rd.lift
  generalize lift (rL 8) 0 xs k e = L at *
  obtain ⟨y1, k1, e1⟩ := L
  dsimp only at *
  refine (unhide HX).mono ?_
  rintro _ w1 ⟨rfl, hC, hF⟩
  have HR := hide ((unhide HR).step hF hC)
  have HF := hide ((unhide HF).trans (fr_c hF))
  have HN := hide ((unhide HN).fr hF (by have := (unhide HO).c; simp; omega))
  have HV := hide ((unhide HV).fr hF (by have := (unhide HO).c; simp; omega))
  clear hC hF HX
  have t0 := (unhide HN).tab 0 _ rfl
  have z0 := (unhide HV).tab 0 _ rfl
  have fz0 := ((unhide HV).room 0 (by decide)).2
  have t1 := (unhide HN).tab 1 _ rfl
  have z1 := (unhide HV).tab 1 _ rfl
  have fz1 := ((unhide HV).room 1 (by decide)).2
  have t2 := (unhide HN).tab 2 _ rfl
  have z2 := (unhide HV).tab 2 _ rfl
  have fz2 := ((unhide HV).room 2 (by decide)).2
  have t3 := (unhide HN).tab 3 _ rfl
  have z3 := (unhide HV).tab 3 _ rfl
  have fz3 := ((unhide HV).room 3 (by decide)).2
  have t4 := (unhide HN).tab 4 _ rfl
  have z4 := (unhide HV).tab 4 _ rfl
  have fz4 := ((unhide HV).room 4 (by decide)).2
  have t5 := (unhide HN).tab 5 _ rfl
  have z5 := (unhide HV).tab 5 _ rfl
  have fz5 := ((unhide HV).room 5 (by decide)).2
  have t6 := (unhide HN).tab 6 _ rfl
  have z6 := (unhide HV).tab 6 _ rfl
  have fz6 := ((unhide HV).room 6 (by decide)).2
  have t7 := (unhide HN).tab 7 _ rfl
  have z7 := (unhide HV).tab 7 _ rfl
  have fz7 := ((unhide HV).room 7 (by decide)).2
  have t8 := (unhide HN).tab 8 _ rfl
  have z8 := (unhide HV).tab 8 _ rfl
  have fz8 := ((unhide HV).room 8 (by decide)).2
  have pf := ((unhide HN).room 4 (by decide)).2
  dsimp only [hd0] at t0 t1 t2 t3 t4 t8
  go_wp2_with fail
  have fA : Fr [W.heap.size + 1] w1 (w1.setCell ⟨W.heap.size + 1, 4, none⟩ (.int .u64 y1)) := (Fr.refl _ _).place _ _
  have HR := hide ((unhide HR).fr fA (unhide HO) (by simp))
  have HF := hide ((unhide HF).set 4 (Or.inr (by omega) : W.heap.size + 1 ∈ [c, rb] ∨ W.heap.size ≤ W.heap.size + 1) (.int .u64 y1))
  refine bodyPost_ret (v := .agg #[.int .i64 op, .int .u8 0, .int .u32 0, .int .u32 0, .int .u64 y1, .slice none 0 0, .slice none 0 0, .slice none 0 0, .bool false]) (by simp [results, Tryz.results167, go_sem, z0, z1, z2, z3, z4, z5, z6, z7, z8]) rfl ?_
  have fZ := fun w => fr_set9 w W.heap.size (.int .i64 op) (.int .u8 0) (.int .u32 0) (.int .u32 0) (.int .u64 y1) (.slice none 0 0) (.slice none 0 0) (.slice none 0 0) (.bool false)
  refine ⟨⟨op, 0, 0, 0, y1, [], false⟩, _, _, _, none, 0, 0, none, 0, 0, (⟨op, 0, 0, 0, y1, [], false⟩, .nil, .nil), _, _, rfl, ?_, fun _ => ⟨rfl, slc_nil _ _, fov_nil _ _, fov_nil _ _⟩, (unhide HR).fr (fZ _) (unhide HO) (by simp), (unhide HF).thenL (fZ _) (by simp)⟩
  rw [show rRest (sq sat) deep op = bd inz (rL 8) fun x => giv ({ hd0 op with bits := x }, .nil, .nil) by unfold rRest rPlain; rw [unhide HV0]; rfl]
  exact (unhide HD1).bd (Rd.giv _ _ _ _)
theorem instr_any {n : Nat} {op : Int} {c rb : Nat} {a : Option Addr} {len cap : Nat} {xs : List Int} {sat : Bool} {deep k : Nat} {e : Int} {W : World} (HI : Hid (PSeq c rb a len cap xs sat n)) (h : Rs c rb a len cap xs sat deep k e W) (hk : e = 0 → len - k < n) (hb : imI op = 1 → deep < 64) (ho : op ≤ 9223372036854775807) : InstrP c rb a len cap xs sat deep k e op W := by
  by_cases h1 : imI op = 1
  · exact instr_1 HI h hk hb ho h1
  by_cases h2 : imI op = 2
  · exact instr_2 HI h hk hb ho h2
  by_cases h3 : imI op = 3
  · exact instr_3 HI h hk hb ho h3
  by_cases h4 : imI op = 4
  · exact instr_4 HI h hk hb ho h4
  by_cases h5 : imI op = 5
  · exact instr_5 HI h hk hb ho h5
  by_cases h6 : imI op = 6
  · exact instr_6 HI h hk hb ho h6
  by_cases h7 : imI op = 7
  · exact instr_7 HI h hk hb ho h7
  by_cases h8 : imI op = 8
  · exact instr_8 HI h hk hb ho h8
  by_cases h9 : imI op = 9
  · exact instr_9 HI h hk hb ho h9
  by_cases h10 : imI op = 10
  · exact instr_10 HI h hk hb ho h10
  by_cases h11 : imI op = 11
  · exact instr_11 HI h hk hb ho h11
  refine instr_0 HI h hk hb ho (fun j j1 j2 hj => ?_)
  have : j = 1 ∨ j = 2 ∨ j = 3 ∨ j = 4 ∨ j = 5 ∨ j = 6 ∨ j = 7 ∨ j = 8 ∨ j = 9 ∨ j = 10 ∨ j = 11 := by omega
  rcases this with rfl | rfl | rfl | rfl | rfl | rfl | rfl | rfl | rfl | rfl | rfl
  all_goals contradiction
end Go.Proofs.YtjoonmpjcophnaaGreatDoor
