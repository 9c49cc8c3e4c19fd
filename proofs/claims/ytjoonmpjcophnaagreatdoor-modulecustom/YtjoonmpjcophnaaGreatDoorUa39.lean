/- PcF, PrA, PrB, PpA, PlB, PsA, PlC, PsE, PlD, PsB, PpC. -/
import Derived.Test.YtjoonmpjcophnaaGreatDoorUa36
import Derived.Test.YtjoonmpjcophnaaGreatDoorUa38
import Derived.Deep.DeepCutAuto
import Derived.Lib.MakeNoZero
import Derived.Laws.Externs
namespace Go.Proofs.YtjoonmpjcophnaaGreatDoor
open Go.RowKit

theorem oper_storeA {P : Program} {ty t : TypeId} {x y : Operand} {pos : String} {af : Array Edge} {g : Option (Nat × Bool)} {a : Act} {w : World} {K : Act → World → Prop} {Q : Exit → Act → World → Prop} {gb off : Nat} {cs : List Value}
    (hx : a.eval x = .pointer (some ⟨gb, off, none⟩)) (hy : a.eval y = .agg cs.toArray) (hi : (P.info? ty).map (·.size) = some cs.length) (hc : ∀ j, j < cs.length → (∃ v, w.cell? ⟨gb, off + j, none⟩ = some v) ∧ w.frozen? ⟨gb, off + j, none⟩ = false) (h1 : ∀ v ∈ cs, v.oneCell' = true)
    (h : K a (w.setCells gb off cs)) : Oper.wp P ⟨none, .store ty x y, t, pos, af, g⟩ a w K Q := by
  unfold Oper.wp
  simp only [execOp, hx, hy, Sem.run_bind, run_storeA w ty gb off cs hi hc h1]
  exact h
theorem vr_cells {b n : Nat} {w : World} (h : Room b n w) (hl : b < w.heap.size) {cs : List Value} (hn : cs.length = n) : Vr b n cs (w.setCells b 0 cs) := by
  refine ⟨fun j v hj => ?_, room_cellsL cs 0 h, Nat.lt_of_lt_of_le hl (fr_cells b cs 0 w).size⟩
  have hlt : j < cs.length := (List.getElem?_eq_some_iff.1 hj).1
  have := World.cell?_setCells_in b cs 0 w (fun i hi => by rw [Nat.zero_add]; obtain ⟨v, hv⟩ := (h i (by omega)).1; rw [hv]; rfl) j hlt
  rw [Nat.zero_add] at this
  rw [this, ← hj, List.getElem?_eq_getElem hlt]
theorem Fresh.room {N b : Nat} {vs : Array Value} {w : World} (h : Fresh N vs b w) : Room b vs.size w := fun o ho => ⟨⟨_, (h.cell o).trans (Array.getElem?_eq_getElem ho)⟩, h.thawed o⟩
theorem szP103b : (Tryz.prog.info? 103).map (·.size) = some 9 := by kernel_rfl
section
variable {c : Nat} {a : Option Addr} {len cap k : Nat} {xs : List Int} {e : Int} {W : World} {sat : Bool} {q : Nat}

set_option maxHeartbeats 4000000 in
set_option maxRecDepth 100000 in
theorem clos109_any (h : Cs c a len cap xs k e W) (hm : Mk W) (hc : 4 ≤ c) (hB : Tab W q [.pointer (some ⟨c, 0, none⟩), .bool sat]) (hql : q < W.heap.size) (hqc : q ≠ c) :
    Calls Tryz.prog 109 #[.pointer (some ⟨q, 0, none⟩)] W fun r W' => ∃ y cs k' e', r = .returned (.agg (List.toArray cs)) ∧ Rd rImp xs k e y k' e' ∧ eIm.rep' W' (fun b => W.heap.size ≤ b) e' y cs ∧ Cs c a len cap xs k' e' W' ∧ Mk W' ∧ Tab W' q [.pointer (some ⟨c, 0, none⟩), .bool sat] ∧ Fr [c] W W' := by
  have hcl := h.1.lt
  have HAl : Hid (∀ p, a = some p → 0 < len → p.block < W.heap.size) := hide h.2.1.lt
  have hb := below1 W (.cells #[.string { data := #[] }, .string { data := #[] }, .int .i64 0, .int .u32 0, .int .u32 0, .int .u32 0, .bool false, .int .u8 0, .bool false] 103)
  have HR := hide (vr_new [.string { data := #[] }, .string { data := #[] }, .int .i64 0, .int .u32 0, .int .u32 0, .int .u32 0, .bool false, .int .u8 0, .bool false] 103 W)
  change Hid (Vr W.heap.size 9 [.string { data := #[] }, .string { data := #[] }, .int .i64 0, .int .u32 0, .int .u32 0, .int .u32 0, .bool false, .int .u8 0, .bool false] (W.alloc (.cells #[.string { data := #[] }, .string { data := #[] }, .int .i64 0, .int .u32 0, .int .u32 0, .int .u32 0, .bool false, .int .u8 0, .bool false] 103))) at HR
  have hd := (Below.refl (W.alloc (.cells #[.string { data := #[] }, .string { data := #[] }, .int .i64 0, .int .u32 0, .int .u32 0, .int .u32 0, .bool false, .int .u8 0, .bool false] 103)).heap.size (W.alloc (.cells #[.string { data := #[] }, .string { data := #[] }, .int .i64 0, .int .u32 0, .int .u32 0, .int .u32 0, .bool false, .int .u8 0, .bool false] 103))).drew
  have HT0 : Hid ((fun w' => Cs c a len cap xs k e w' ∧ Mk w' ∧ Fr [c] W w' ∧ Vr W.heap.size 9 [.string { data := #[] }, .string { data := #[] }, .int .i64 0, .int .u32 0, .int .u32 0, .int .u32 0, .bool false, .int .u8 0, .bool false] w' ∧ Tab w' q [.pointer (some ⟨c, 0, none⟩), .bool sat]) (W.alloc (.cells #[.string { data := #[] }, .string { data := #[] }, .int .i64 0, .int .u32 0, .int .u32 0, .int .u32 0, .bool false, .int .u8 0, .bool false] 103)).drew) := hide ⟨(h.bel hb).bel hd, (hm.below hb).below hd, (Fr.of hb [c]).bel hd, (unhide HR).fr (Fr.of hd []) (by simp), (hB.below hb).below hd⟩
  clear h hm hB hb HR hd
  go_enter Tryz.func109, Tryz.ntmps109
  go_wp2_with fail
  go_cut [2] (fun v2 wx => ∃ (ib : Nat) (y1 y2 : List Int) (y3 : Int) (k1 k2 k3 : Nat) (e1 e2 e3 : Int), v2 = .pointer (some ⟨ib, 0, none⟩) ∧ W.heap.size < ib ∧ Rd rName xs k e y1 k1 e1 ∧ Rd rName xs k1 e1 y2 k2 e2 ∧ Rd rKind xs k2 e2 y3 k3 e3 ∧ (0 ≤ y3 ∧ y3 < 256) ∧ (e3 = 0 → y3 ≤ 3) ∧ Vr ib 9 [.string (strOfNums y1), .string (strOfNums y2), .int .i64 y3, .int .u32 0, .int .u32 0, .int .u32 0, .bool false, .int .u8 0, .bool false] wx ∧ Cs c a len cap xs k3 e3 wx ∧ Mk wx ∧ Fr [c] W wx ∧ Vr W.heap.size 9 [.string { data := #[] }, .string { data := #[] }, .int .i64 0, .int .u32 0, .int .u32 0, .int .u32 0, .bool false, .int .u8 0, .bool false] wx ∧ Tab wx q [.pointer (some ⟨c, 0, none⟩), .bool sat])
  case first =>
    refine wp_region_held_drew (S := fun w' => w'.cell? ⟨q, 0, none⟩ = some (.pointer (some ⟨c, 0, none⟩)) ∧ w'.cell? ⟨q, 1, none⟩ = some (.bool sat)) (by kernel_rfl) ?_ (fun hHeld => ?_)
    · (try dsimp only)
      exact ⟨(unhide HT0).2.2.2.2 0 _ rfl, (unhide HT0).2.2.2.2 1 _ rfl⟩
    refine wo_start (l := [c]) (N := W.heap.size + 1) (i1 := 9) (d1 := 2) (v1 := #[.string { data := #[] }, .string { data := #[] }, .int .i64 0, .int .u32 0, .int .u32 0, .int .u32 0, .bool false, .int .u8 0, .bool false]) (t1 := 103) (f := 1) (n := 9) (T := fun w' => Cs c a len cap xs k e w' ∧ Mk w' ∧ Fr [c] W w' ∧ Vr W.heap.size 9 [.string { data := #[] }, .string { data := #[] }, .int .i64 0, .int .u32 0, .int .u32 0, .int .u32 0, .bool false, .int .u8 0, .bool false] w' ∧ Tab w' q [.pointer (some ⟨c, 0, none⟩), .bool sat]) (by kernel_rfl) (by kernel_rfl) (fun _ _ _ _ _ h => h) (fun _ _ h hb => ⟨(Fr.of hb []).keep h.1 (by simp), (Fr.of hb []).keep h.2 (by simp)⟩) (fun _ _ h hf => ⟨hf.keep h.1 (by simpa using hqc), hf.keep h.2 (by simpa using hqc)⟩) (by simp; omega) ?_ (fun _ _ h hb => ⟨h.1.bel hb, h.2.1.below hb, h.2.2.1.bel hb, h.2.2.2.1.fr (Fr.of hb []) (by simp), h.2.2.2.2.below hb⟩) hHeld (unhide HT0) (by have := (unhide HT0).2.2.2.1.lt; omega) ?_
    · intro a w K h
      unfold wpOp
      go_simp
      exact Or.inl h
    clear hHeld HT0
    refine woA 0 3 ?_
    refine woA 1 4 ?_
    refine woA 3 6 ?_
    refine woA 4 7 ?_
    refine woA 6 9 ?_
    refine wo_call (c := 2) (o := { dst := some 5, op := _, type := _, pos := _, after := _, guard := _ }) rfl (by kernel_rfl) (by kernel_rfl) (fun u hSu hTu Kk hKk => ?_)
    go_simp
    refine (p_name hTu.1).mono ?_
    rintro _ w1 ⟨y1, k1, e1, rfl, hD, hC, hF⟩
    have HD1 := hide hD
    have HTn : Hid ((fun w' => Cs c a len cap xs k1 e1 w' ∧ Mk w' ∧ Fr [c] W w' ∧ Vr W.heap.size 9 [.string { data := #[] }, .string { data := #[] }, .int .i64 0, .int .u32 0, .int .u32 0, .int .u32 0, .bool false, .int .u8 0, .bool false] w' ∧ Tab w' q [.pointer (some ⟨c, 0, none⟩), .bool sat]) w1) := hide ⟨hC, hTu.2.1.fr hF (by simp; omega), hTu.2.2.1.trans hF, hTu.2.2.2.1.fr hF (by simp; omega), hTu.2.2.2.2.fr hF (by simpa using hqc)⟩
    have HFn := hide hF
    clear hD hC hF hTu hSu
    (try go_wp2_with fail)
    refine hKk.out _ _ (fun w' => Cs c a len cap xs k1 e1 w' ∧ Mk w' ∧ Fr [c] W w' ∧ Vr W.heap.size 9 [.string { data := #[] }, .string { data := #[] }, .int .i64 0, .int .u32 0, .int .u32 0, .int .u32 0, .bool false, .int .u8 0, .bool false] w' ∧ Tab w' q [.pointer (some ⟨c, 0, none⟩), .bool sat]) (unhide HFn) (fun _ _ h hb => ⟨h.1.bel hb, h.2.1.below hb, h.2.2.1.bel hb, h.2.2.2.1.fr (Fr.of hb []) (by simp), h.2.2.2.2.below hb⟩) (unhide HTn) ?_
    clear hKk Kk HTn HFn
    (try simp only [Act.put, List.setIfInBounds_toArray, List.set_cons_zero, List.set_cons_succ])
    refine wo_call (c := 5) (o := { dst := some 8, op := _, type := _, pos := _, after := _, guard := _ }) rfl (by kernel_rfl) (by kernel_rfl) (fun u hSu hTu Kk hKk => ?_)
    go_simp
    refine (p_name hTu.1).mono ?_
    rintro _ w2 ⟨y2, k2, e2, rfl, hD, hC, hF⟩
    have HD2 := hide hD
    have HTn : Hid ((fun w' => Cs c a len cap xs k2 e2 w' ∧ Mk w' ∧ Fr [c] W w' ∧ Vr W.heap.size 9 [.string { data := #[] }, .string { data := #[] }, .int .i64 0, .int .u32 0, .int .u32 0, .int .u32 0, .bool false, .int .u8 0, .bool false] w' ∧ Tab w' q [.pointer (some ⟨c, 0, none⟩), .bool sat]) w2) := hide ⟨hC, hTu.2.1.fr hF (by simp; omega), hTu.2.2.1.trans hF, hTu.2.2.2.1.fr hF (by simp; omega), hTu.2.2.2.2.fr hF (by simpa using hqc)⟩
    have HFn := hide hF
    clear hD hC hF hTu hSu
    (try go_wp2_with fail)
    refine hKk.out _ _ (fun w' => Cs c a len cap xs k2 e2 w' ∧ Mk w' ∧ Fr [c] W w' ∧ Vr W.heap.size 9 [.string { data := #[] }, .string { data := #[] }, .int .i64 0, .int .u32 0, .int .u32 0, .int .u32 0, .bool false, .int .u8 0, .bool false] w' ∧ Tab w' q [.pointer (some ⟨c, 0, none⟩), .bool sat]) (unhide HFn) (fun _ _ h hb => ⟨h.1.bel hb, h.2.1.below hb, h.2.2.1.bel hb, h.2.2.2.1.fr (Fr.of hb []) (by simp), h.2.2.2.2.below hb⟩) (unhide HTn) ?_
    clear hKk Kk HTn HFn
    (try simp only [Act.put, List.setIfInBounds_toArray, List.set_cons_zero, List.set_cons_succ])
    refine wo_call (c := 7) (o := { dst := some 10, op := _, type := _, pos := _, after := _, guard := _ }) rfl (by kernel_rfl) (by kernel_rfl) (fun u hSu hTu Kk hKk => ?_)
    go_simp
    refine (p_kind hTu.1).mono ?_
    rintro _ w3 ⟨y3, k3, e3, rfl, hD, hlt, h3, hC, hF⟩
    have HD3 := hide hD
    have HTn : Hid ((fun w' => Cs c a len cap xs k3 e3 w' ∧ Mk w' ∧ Fr [c] W w' ∧ Vr W.heap.size 9 [.string { data := #[] }, .string { data := #[] }, .int .i64 0, .int .u32 0, .int .u32 0, .int .u32 0, .bool false, .int .u8 0, .bool false] w' ∧ Tab w' q [.pointer (some ⟨c, 0, none⟩), .bool sat]) w3) := hide ⟨hC, hTu.2.1.fr hF (by simp; omega), hTu.2.2.1.trans hF, hTu.2.2.2.1.fr hF (by simp; omega), hTu.2.2.2.2.fr hF (by simpa using hqc)⟩
    have HFn := hide hF
    clear hD hC hF hTu hSu
    (try go_wp2_with fail)
    refine hKk.out _ _ (fun w' => Cs c a len cap xs k3 e3 w' ∧ Mk w' ∧ Fr [c] W w' ∧ Vr W.heap.size 9 [.string { data := #[] }, .string { data := #[] }, .int .i64 0, .int .u32 0, .int .u32 0, .int .u32 0, .bool false, .int .u8 0, .bool false] w' ∧ Tab w' q [.pointer (some ⟨c, 0, none⟩), .bool sat]) (unhide HFn) (fun _ _ h hb => ⟨h.1.bel hb, h.2.1.below hb, h.2.2.1.bel hb, h.2.2.2.1.fr (Fr.of hb []) (by simp), h.2.2.2.2.below hb⟩) (unhide HTn) ?_
    clear hKk Kk HTn HFn
    (try simp only [Act.put, List.setIfInBounds_toArray, List.set_cons_zero, List.set_cons_succ])
    refine woA 8 11 ?_
    refine wo_fin (by kernel_rfl) (fun wf b1 hSu hTu k1' => ?_)
    (try simp only [Act.put, List.setIfInBounds_toArray, List.set_cons_zero, List.set_cons_succ])
    unfold ptr
    refine lstM 11 1023 (by kernel_rfl) ?_
    refine rdA 10 2047 (fun Kk hKk => ?_)
    rw [if_pos (by rfl)]
    have hrm := k1'.room
    have hbase := k1'.base
    have hVr := vr_cells (cs := [.string (strOfNums y1), .string (strOfNums y2), .int .i64 y3, .int .u32 0, .int .u32 0, .int .u32 0, .bool false, .int .u8 0, .bool false]) (n := 9) hrm k1'.size rfl
    have hFw := fr_cells b1 [.string (strOfNums y1), .string (strOfNums y2), .int .i64 y3, .int .u32 0, .int .u32 0, .int .u32 0, .bool false, .int .u8 0, .bool false] 0 wf
    refine oper_storeA (gb := b1) (off := 0) (cs := [.string (strOfNums y1), .string (strOfNums y2), .int .i64 y3, .int .u32 0, .int .u32 0, .int .u32 0, .bool false, .int .u8 0, .bool false]) (by rfl) (by rfl) szP103b (fun j hj => by rw [Nat.zero_add]; exact hrm j hj) (by simp [Value.oneCell']) ?_
    generalize wf.setCells b1 0 [.string (strOfNums y1), .string (strOfNums y2), .int .i64 y3, .int .u32 0, .int .u32 0, .int .u32 0, .bool false, .int .u8 0, .bool false] = wx at *
    refine hKk.out _ _ ?_ (fun hHeld => ?_)
    · (try dsimp only)
      exact ⟨hFw.keep hSu.1 (by simp; omega), hFw.keep hSu.2 (by simp; omega)⟩
    clear hKk Kk
    (try simp only [List.setIfInBounds_toArray, List.set_cons_zero, List.set_cons_succ])
    refine wpAnyH_done (by kernel_rfl) ?_ _
    have HT := hide (And.intro (hTu.1.fr hFw (by simp; omega) (fun p hp hl => by have := unhide HAl p hp hl; simp; omega)) (And.intro (hTu.2.1.fr hFw (by simp; omega)) (And.intro (hTu.2.2.1.thenL hFw (by simp; omega)) (And.intro (hTu.2.2.2.1.fr hFw (by simp; omega)) (hTu.2.2.2.2.fr hFw (by simp; omega))))))
    have HVr := hide hVr
    clear hTu hSu hVr hFw hrm hHeld
    go_wp2_with fail
    go_meet
    exact ⟨b1, y1, y2, y3, k1, k2, k3, e1, e2, e3, rfl, by omega, unhide HD1, unhide HD2, unhide HD3, hlt, h3, unhide HVr, unhide HT⟩
  case rest =>
    obtain ⟨ib, y1, y2, y3, k1, k2, k3, e1, e2, e3, rfl, hib, hD1, hD2, hD3, hlt, h3, hN, hC, hM, hF, hR, hB⟩ := hcut
    have HD1 := hide hD1
    have HD2 := hide hD2
    have HD3 := hide hD3
    have HN := hide hN
    have HC := hide hC
    have HM := hide hM
    have HF := hide hF
    have HR := hide hR
    have HB := hide hB
    clear hD1 hD2 hD3 hN hC hM hF hR hB HT0
    by_cases q0 : y3 = 0
    · subst q0
      have hx0 := (unhide HB) 0 _ rfl
      have hx2 := (unhide HN).tab 2 _ rfl
      go_wp2_with fail
      clear hx0 hx2
      refine (p_u32 (unhide HC)).mono ?_
      rintro _ w4 ⟨y4, k4, e4, rfl, hD, -, hC, hF⟩
      have HD4 := hide hD
      have HC := hide hC
      have HF := hide ((unhide HF).trans hF)
      have HN := hide ((unhide HN).fr hF (by simp; omega))
      have HR := hide ((unhide HR).fr hF (by simp; omega))
      have HM := hide ((unhide HM).fr hF (by simp; omega))
      have HB := hide ((unhide HB).fr hF (by simpa using hqc))
      clear hD hC hF
      have t0 := (unhide HN).tab 0 _ rfl
      have z0 := (unhide HR).tab 0 _ rfl
      have fz0 := ((unhide HR).room 0 (by decide)).2
      have t1 := (unhide HN).tab 1 _ rfl
      have z1 := (unhide HR).tab 1 _ rfl
      have fz1 := ((unhide HR).room 1 (by decide)).2
      have t2 := (unhide HN).tab 2 _ rfl
      have z2 := (unhide HR).tab 2 _ rfl
      have fz2 := ((unhide HR).room 2 (by decide)).2
      have t3 := (unhide HN).tab 3 _ rfl
      have z3 := (unhide HR).tab 3 _ rfl
      have fz3 := ((unhide HR).room 3 (by decide)).2
      have t4 := (unhide HN).tab 4 _ rfl
      have z4 := (unhide HR).tab 4 _ rfl
      have fz4 := ((unhide HR).room 4 (by decide)).2
      have t5 := (unhide HN).tab 5 _ rfl
      have z5 := (unhide HR).tab 5 _ rfl
      have fz5 := ((unhide HR).room 5 (by decide)).2
      have t6 := (unhide HN).tab 6 _ rfl
      have z6 := (unhide HR).tab 6 _ rfl
      have fz6 := ((unhide HR).room 6 (by decide)).2
      have t7 := (unhide HN).tab 7 _ rfl
      have z7 := (unhide HR).tab 7 _ rfl
      have fz7 := ((unhide HR).room 7 (by decide)).2
      have t8 := (unhide HN).tab 8 _ rfl
      have z8 := (unhide HR).tab 8 _ rfl
      have fz8 := ((unhide HR).room 8 (by decide)).2
      have pf0 := ((unhide HN).room 3 (by decide)).2
      go_wp2_with fail
      have fA : Fr [ib] w4 (w4.setCell ⟨ib, 3, none⟩ (.int .u32 y4)) := (Fr.refl _ _).place 3 _
      have HC := hide ((unhide HC).fr fA (by simp; omega) (fun p hp hl => by have := unhide HAl p hp hl; simp; omega))
      have HF := hide ((unhide HF).thenL fA (by simp; omega))
      have HM := hide ((unhide HM).fr fA (by simp; omega))
      have HB := hide ((unhide HB).fr fA (by simp; omega))
      clear fA
      refine bodyPost_ret (v := .agg #[.string (strOfNums y1), .string (strOfNums y2), .int .i64 0, .int .u32 y4, .int .u32 0, .int .u32 0, .bool false, .int .u8 0, .bool false]) (by simp [results, Tryz.results109, go_sem, z0, z1, z2, z3, z4, z5, z6, z7, z8]) rfl ?_
      have fZ := fun w => fr_put9 w W.heap.size (.string (strOfNums y1)) (.string (strOfNums y2)) (.int .i64 0) (.int .u32 y4) (.int .u32 0) (.int .u32 0) (.bool false) (.int .u8 0) (.bool false)
      exact ⟨⟨y1, y2, 0, y4, (0, 0, false), 0, false⟩, [.string (strOfNums y1), .string (strOfNums y2), .int .i64 0, .int .u32 y4, .int .u32 0, .int .u32 0, .bool false, .int .u8 0, .bool false], k4, e4, rfl, (unhide HD1).bd ((unhide HD2).bd ((unhide HD3).bd (impK_0 (unhide HD4)))), El.rep'.of rfl _, (unhide HC).fr (fZ _) (by simp; omega) (fun p hp hl => by have := unhide HAl p hp hl; simp; omega), (unhide HM).fr (fZ _) (by simp; omega), (unhide HB).fr (fZ _) (by simp; omega), (unhide HF).thenL (fZ _) (by simp)⟩
    by_cases q1 : y3 = 1
    · subst q1
      have hx0 := (unhide HB) 0 _ rfl
      have hx2 := (unhide HN).tab 2 _ rfl
      go_wp2_with fail
      clear hx0 hx2
      refine (p_table (unhide HC)).mono ?_
      rintro _ w4 ⟨y4, k4, e4, rfl, hD, hC, hF⟩
      have HD4 := hide hD
      have HC := hide hC
      have HF := hide ((unhide HF).trans hF)
      have HN := hide ((unhide HN).fr hF (by simp; omega))
      have HR := hide ((unhide HR).fr hF (by simp; omega))
      have HM := hide ((unhide HM).fr hF (by simp; omega))
      have HB := hide ((unhide HB).fr hF (by simpa using hqc))
      clear hD hC hF
      have t0 := (unhide HN).tab 0 _ rfl
      have z0 := (unhide HR).tab 0 _ rfl
      have fz0 := ((unhide HR).room 0 (by decide)).2
      have t1 := (unhide HN).tab 1 _ rfl
      have z1 := (unhide HR).tab 1 _ rfl
      have fz1 := ((unhide HR).room 1 (by decide)).2
      have t2 := (unhide HN).tab 2 _ rfl
      have z2 := (unhide HR).tab 2 _ rfl
      have fz2 := ((unhide HR).room 2 (by decide)).2
      have t3 := (unhide HN).tab 3 _ rfl
      have z3 := (unhide HR).tab 3 _ rfl
      have fz3 := ((unhide HR).room 3 (by decide)).2
      have t4 := (unhide HN).tab 4 _ rfl
      have z4 := (unhide HR).tab 4 _ rfl
      have fz4 := ((unhide HR).room 4 (by decide)).2
      have t5 := (unhide HN).tab 5 _ rfl
      have z5 := (unhide HR).tab 5 _ rfl
      have fz5 := ((unhide HR).room 5 (by decide)).2
      have t6 := (unhide HN).tab 6 _ rfl
      have z6 := (unhide HR).tab 6 _ rfl
      have fz6 := ((unhide HR).room 6 (by decide)).2
      have t7 := (unhide HN).tab 7 _ rfl
      have z7 := (unhide HR).tab 7 _ rfl
      have fz7 := ((unhide HR).room 7 (by decide)).2
      have t8 := (unhide HN).tab 8 _ rfl
      have z8 := (unhide HR).tab 8 _ rfl
      have fz8 := ((unhide HR).room 8 (by decide)).2
      have pf0 := ((unhide HN).room 4 (by decide)).2
      have pf1 := ((unhide HN).room 5 (by decide)).2
      have pf2 := ((unhide HN).room 6 (by decide)).2
      go_wp2_with fail
      have fA : Fr [ib] w4 (((w4.setCell ⟨ib, 4, none⟩ (.int .u32 y4.1)).setCell ⟨ib, 5, none⟩ (.int .u32 y4.2.1)).setCell ⟨ib, 6, none⟩ (.bool y4.2.2)) := (((Fr.refl _ _).place 4 _).place 5 _).place 6 _
      have HC := hide ((unhide HC).fr fA (by simp; omega) (fun p hp hl => by have := unhide HAl p hp hl; simp; omega))
      have HF := hide ((unhide HF).thenL fA (by simp; omega))
      have HM := hide ((unhide HM).fr fA (by simp; omega))
      have HB := hide ((unhide HB).fr fA (by simp; omega))
      clear fA
      refine bodyPost_ret (v := .agg #[.string (strOfNums y1), .string (strOfNums y2), .int .i64 1, .int .u32 0, .int .u32 y4.1, .int .u32 y4.2.1, .bool y4.2.2, .int .u8 0, .bool false]) (by simp [results, Tryz.results109, go_sem, z0, z1, z2, z3, z4, z5, z6, z7, z8]) rfl ?_
      have fZ := fun w => fr_put9 w W.heap.size (.string (strOfNums y1)) (.string (strOfNums y2)) (.int .i64 1) (.int .u32 0) (.int .u32 y4.1) (.int .u32 y4.2.1) (.bool y4.2.2) (.int .u8 0) (.bool false)
      exact ⟨⟨y1, y2, 1, 0, y4, 0, false⟩, [.string (strOfNums y1), .string (strOfNums y2), .int .i64 1, .int .u32 0, .int .u32 y4.1, .int .u32 y4.2.1, .bool y4.2.2, .int .u8 0, .bool false], k4, e4, rfl, (unhide HD1).bd ((unhide HD2).bd ((unhide HD3).bd (impK_1 (unhide HD4)))), El.rep'.of rfl _, (unhide HC).fr (fZ _) (by simp; omega) (fun p hp hl => by have := unhide HAl p hp hl; simp; omega), (unhide HM).fr (fZ _) (by simp; omega), (unhide HB).fr (fZ _) (by simp; omega), (unhide HF).thenL (fZ _) (by simp)⟩
    by_cases q2 : y3 = 2
    · subst q2
      have hx0 := (unhide HB) 0 _ rfl
      have hx2 := (unhide HN).tab 2 _ rfl
      go_wp2_with fail
      clear hx0 hx2
      refine (p_limits (unhide HC)).mono ?_
      rintro _ w4 ⟨y4, k4, e4, rfl, hD, hC, hF⟩
      have HD4 := hide hD
      have HC := hide hC
      have HF := hide ((unhide HF).trans hF)
      have HN := hide ((unhide HN).fr hF (by simp; omega))
      have HR := hide ((unhide HR).fr hF (by simp; omega))
      have HM := hide ((unhide HM).fr hF (by simp; omega))
      have HB := hide ((unhide HB).fr hF (by simpa using hqc))
      clear hD hC hF
      have t0 := (unhide HN).tab 0 _ rfl
      have z0 := (unhide HR).tab 0 _ rfl
      have fz0 := ((unhide HR).room 0 (by decide)).2
      have t1 := (unhide HN).tab 1 _ rfl
      have z1 := (unhide HR).tab 1 _ rfl
      have fz1 := ((unhide HR).room 1 (by decide)).2
      have t2 := (unhide HN).tab 2 _ rfl
      have z2 := (unhide HR).tab 2 _ rfl
      have fz2 := ((unhide HR).room 2 (by decide)).2
      have t3 := (unhide HN).tab 3 _ rfl
      have z3 := (unhide HR).tab 3 _ rfl
      have fz3 := ((unhide HR).room 3 (by decide)).2
      have t4 := (unhide HN).tab 4 _ rfl
      have z4 := (unhide HR).tab 4 _ rfl
      have fz4 := ((unhide HR).room 4 (by decide)).2
      have t5 := (unhide HN).tab 5 _ rfl
      have z5 := (unhide HR).tab 5 _ rfl
      have fz5 := ((unhide HR).room 5 (by decide)).2
      have t6 := (unhide HN).tab 6 _ rfl
      have z6 := (unhide HR).tab 6 _ rfl
      have fz6 := ((unhide HR).room 6 (by decide)).2
      have t7 := (unhide HN).tab 7 _ rfl
      have z7 := (unhide HR).tab 7 _ rfl
      have fz7 := ((unhide HR).room 7 (by decide)).2
      have t8 := (unhide HN).tab 8 _ rfl
      have z8 := (unhide HR).tab 8 _ rfl
      have fz8 := ((unhide HR).room 8 (by decide)).2
      have pf0 := ((unhide HN).room 4 (by decide)).2
      have pf1 := ((unhide HN).room 5 (by decide)).2
      have pf2 := ((unhide HN).room 6 (by decide)).2
      go_wp2_with fail
      have fA : Fr [ib] w4 (((w4.setCell ⟨ib, 4, none⟩ (.int .u32 y4.1)).setCell ⟨ib, 5, none⟩ (.int .u32 y4.2.1)).setCell ⟨ib, 6, none⟩ (.bool y4.2.2)) := (((Fr.refl _ _).place 4 _).place 5 _).place 6 _
      have HC := hide ((unhide HC).fr fA (by simp; omega) (fun p hp hl => by have := unhide HAl p hp hl; simp; omega))
      have HF := hide ((unhide HF).thenL fA (by simp; omega))
      have HM := hide ((unhide HM).fr fA (by simp; omega))
      have HB := hide ((unhide HB).fr fA (by simp; omega))
      clear fA
      refine bodyPost_ret (v := .agg #[.string (strOfNums y1), .string (strOfNums y2), .int .i64 2, .int .u32 0, .int .u32 y4.1, .int .u32 y4.2.1, .bool y4.2.2, .int .u8 0, .bool false]) (by simp [results, Tryz.results109, go_sem, z0, z1, z2, z3, z4, z5, z6, z7, z8]) rfl ?_
      have fZ := fun w => fr_put9 w W.heap.size (.string (strOfNums y1)) (.string (strOfNums y2)) (.int .i64 2) (.int .u32 0) (.int .u32 y4.1) (.int .u32 y4.2.1) (.bool y4.2.2) (.int .u8 0) (.bool false)
      exact ⟨⟨y1, y2, 2, 0, y4, 0, false⟩, [.string (strOfNums y1), .string (strOfNums y2), .int .i64 2, .int .u32 0, .int .u32 y4.1, .int .u32 y4.2.1, .bool y4.2.2, .int .u8 0, .bool false], k4, e4, rfl, (unhide HD1).bd ((unhide HD2).bd ((unhide HD3).bd (impK_2 (unhide HD4)))), El.rep'.of rfl _, (unhide HC).fr (fZ _) (by simp; omega) (fun p hp hl => by have := unhide HAl p hp hl; simp; omega), (unhide HM).fr (fZ _) (by simp; omega), (unhide HB).fr (fZ _) (by simp; omega), (unhide HF).thenL (fZ _) (by simp)⟩
    by_cases q3 : y3 = 3
    · subst q3
      have hx0 := (unhide HB) 0 _ rfl
      have hx2 := (unhide HN).tab 2 _ rfl
      go_wp2_with fail
      clear hx0 hx2
      refine (p_global (unhide HC)).mono ?_
      rintro _ w4 ⟨y4, z4, k4, e4, rfl, hD, hC, hF⟩
      have HD4 := hide hD
      have HC := hide hC
      have HF := hide ((unhide HF).trans hF)
      have HN := hide ((unhide HN).fr hF (by simp; omega))
      have HR := hide ((unhide HR).fr hF (by simp; omega))
      have HM := hide ((unhide HM).fr hF (by simp; omega))
      have HB := hide ((unhide HB).fr hF (by simpa using hqc))
      clear hD hC hF
      have t0 := (unhide HN).tab 0 _ rfl
      have z0 := (unhide HR).tab 0 _ rfl
      have fz0 := ((unhide HR).room 0 (by decide)).2
      have t1 := (unhide HN).tab 1 _ rfl
      have z1 := (unhide HR).tab 1 _ rfl
      have fz1 := ((unhide HR).room 1 (by decide)).2
      have t2 := (unhide HN).tab 2 _ rfl
      have z2 := (unhide HR).tab 2 _ rfl
      have fz2 := ((unhide HR).room 2 (by decide)).2
      have t3 := (unhide HN).tab 3 _ rfl
      have z3 := (unhide HR).tab 3 _ rfl
      have fz3 := ((unhide HR).room 3 (by decide)).2
      have t4 := (unhide HN).tab 4 _ rfl
      have zz4 := (unhide HR).tab 4 _ rfl
      have fz4 := ((unhide HR).room 4 (by decide)).2
      have t5 := (unhide HN).tab 5 _ rfl
      have z5 := (unhide HR).tab 5 _ rfl
      have fz5 := ((unhide HR).room 5 (by decide)).2
      have t6 := (unhide HN).tab 6 _ rfl
      have z6 := (unhide HR).tab 6 _ rfl
      have fz6 := ((unhide HR).room 6 (by decide)).2
      have t7 := (unhide HN).tab 7 _ rfl
      have z7 := (unhide HR).tab 7 _ rfl
      have fz7 := ((unhide HR).room 7 (by decide)).2
      have t8 := (unhide HN).tab 8 _ rfl
      have z8 := (unhide HR).tab 8 _ rfl
      have fz8 := ((unhide HR).room 8 (by decide)).2
      have pf0 := ((unhide HN).room 7 (by decide)).2
      have pf1 := ((unhide HN).room 8 (by decide)).2
      go_wp2_with fail
      have fA : Fr [ib] w4 ((w4.setCell ⟨ib, 7, none⟩ (.int .u8 y4)).setCell ⟨ib, 8, none⟩ (.bool z4)) := ((Fr.refl _ _).place 7 _).place 8 _
      have HC := hide ((unhide HC).fr fA (by simp; omega) (fun p hp hl => by have := unhide HAl p hp hl; simp; omega))
      have HF := hide ((unhide HF).thenL fA (by simp; omega))
      have HM := hide ((unhide HM).fr fA (by simp; omega))
      have HB := hide ((unhide HB).fr fA (by simp; omega))
      clear fA
      refine bodyPost_ret (v := .agg #[.string (strOfNums y1), .string (strOfNums y2), .int .i64 3, .int .u32 0, .int .u32 0, .int .u32 0, .bool false, .int .u8 y4, .bool z4]) (by simp [results, Tryz.results109, go_sem, z0, z1, z2, z3, zz4, z5, z6, z7, z8]) rfl ?_
      have fZ := fun w => fr_put9 w W.heap.size (.string (strOfNums y1)) (.string (strOfNums y2)) (.int .i64 3) (.int .u32 0) (.int .u32 0) (.int .u32 0) (.bool false) (.int .u8 y4) (.bool z4)
      exact ⟨⟨y1, y2, 3, 0, (0, 0, false), y4, z4⟩, [.string (strOfNums y1), .string (strOfNums y2), .int .i64 3, .int .u32 0, .int .u32 0, .int .u32 0, .bool false, .int .u8 y4, .bool z4], k4, e4, rfl, (unhide HD1).bd ((unhide HD2).bd ((unhide HD3).bd (impK_3 (unhide HD4)))), El.rep'.of rfl _, (unhide HC).fr (fZ _) (by simp; omega) (fun p hp hl => by have := unhide HAl p hp hl; simp; omega), (unhide HM).fr (fZ _) (by simp; omega), (unhide HB).fr (fZ _) (by simp; omega), (unhide HF).thenL (fZ _) (by simp)⟩
    have hE : Hid (e3 ≠ 0) := hide (fun q => by have := h3 q; omega)
    have hx2 := (unhide HN).tab 2 _ rfl
    have t0 := (unhide HN).tab 0 _ rfl
    have z0 := (unhide HR).tab 0 _ rfl
    have fz0 := ((unhide HR).room 0 (by decide)).2
    have t1 := (unhide HN).tab 1 _ rfl
    have z1 := (unhide HR).tab 1 _ rfl
    have fz1 := ((unhide HR).room 1 (by decide)).2
    have t2 := hx2
    have z2 := (unhide HR).tab 2 _ rfl
    have fz2 := ((unhide HR).room 2 (by decide)).2
    have t3 := (unhide HN).tab 3 _ rfl
    have z3 := (unhide HR).tab 3 _ rfl
    have fz3 := ((unhide HR).room 3 (by decide)).2
    have t4 := (unhide HN).tab 4 _ rfl
    have z4 := (unhide HR).tab 4 _ rfl
    have fz4 := ((unhide HR).room 4 (by decide)).2
    have t5 := (unhide HN).tab 5 _ rfl
    have z5 := (unhide HR).tab 5 _ rfl
    have fz5 := ((unhide HR).room 5 (by decide)).2
    have t6 := (unhide HN).tab 6 _ rfl
    have z6 := (unhide HR).tab 6 _ rfl
    have fz6 := ((unhide HR).room 6 (by decide)).2
    have t7 := (unhide HN).tab 7 _ rfl
    have z7 := (unhide HR).tab 7 _ rfl
    have fz7 := ((unhide HR).room 7 (by decide)).2
    have t8 := (unhide HN).tab 8 _ rfl
    have z8 := (unhide HR).tab 8 _ rfl
    have fz8 := ((unhide HR).room 8 (by decide)).2
    go_wp2_with fail
    refine bodyPost_ret (v := .agg #[.string (strOfNums y1), .string (strOfNums y2), .int .i64 y3, .int .u32 0, .int .u32 0, .int .u32 0, .bool false, .int .u8 0, .bool false]) (by simp [results, Tryz.results109, go_sem, z0, z1, z2, z3, z4, z5, z6, z7, z8]) rfl ?_
    have fZ := fun w => fr_put9 w W.heap.size (.string (strOfNums y1)) (.string (strOfNums y2)) (.int .i64 y3) (.int .u32 0) (.int .u32 0) (.int .u32 0) (.bool false) (.int .u8 0) (.bool false)
    exact ⟨⟨y1, y2, y3, 0, (0, 0, false), 0, false⟩, [.string (strOfNums y1), .string (strOfNums y2), .int .i64 y3, .int .u32 0, .int .u32 0, .int .u32 0, .bool false, .int .u8 0, .bool false], k3, e3, rfl, (unhide HD1).bd ((unhide HD2).bd ((unhide HD3).bd (Rd.err _ (unhide hE)))), El.rep'.of rfl _, (unhide HC).fr (fZ _) (by simp; omega) (fun p hp hl => by have := unhide HAl p hp hl; simp; omega), (unhide HM).fr (fZ _) (by simp; omega), (unhide HB).fr (fZ _) (by simp; omega), (unhide HF).thenL (fZ _) (by simp)⟩
end
end Go.Proofs.YtjoonmpjcophnaaGreatDoor
namespace Go.Proofs.YtjoonmpjcophnaaGreatDoor
open Go.RowKit

/-- A copy that is known, as an operation. -/
theorem oper_copy {t t' ty : TypeId} {dst : Option Tmp} {s x : Operand} {pos : String} {af : Array Edge} {g : Option (Nat × Bool)} {a : Act} {w w' : World} {K : Act → World → Prop} {Q : Exit → Act → World → Prop} {v u v' : Value}
    (hs : a.eval s = v) (hx : a.eval x = u) (hrun : (Builtin.copy_ #[t, t'] ty #[v, u]).run Tryz.prog w = .ok v' w') (h : K (a.put dst v') w') :
    Oper.wp Tryz.prog ⟨dst, .call { callee := .builtin .copy, args := #[s, x], argTypes := #[t, t'] }, ty, pos, af, g⟩ a w K Q := by
  unfold Oper.wp
  simp only [execOp, resolve, invoke, builtin, Sem.run_bind, Sem.run_pure, Result.andThen_ok, List.map_toArray, List.map_cons, List.map_nil, hs, hx, hrun]
  exact h
/-- The first i of a row are this byte. -/
structure Rp (g n i : Nat) (y : Int) (w : World) : Prop where
  room : Room g n w
  cells : ∀ j, j < i → w.cell? ⟨g, j, none⟩ = some (.int .u8 y)
  lt : g < w.heap.size
theorem Rp.copy {g n i m : Nat} {y : Int} {w : World} (h : Rp g n i y w) (hm : i + m ≤ n) : Rp g n (i + m) y (w.setCells g i (List.replicate m (.int .u8 y))) := by
  refine ⟨room_cellsL _ _ h.room, fun j hj => ?_, Nat.lt_of_lt_of_le h.lt (fr_cells g _ i w).size⟩
  by_cases h1 : j < i
  · rw [World.cell?_setCells_out g _ i w _ (fun _ _ => .inl h1)]
    exact h.cells j h1
  · have hin := World.cell?_setCells_in g (List.replicate m (Value.int .u8 y)) i w (fun k hk => by
      rw [List.length_replicate] at hk
      obtain ⟨v, hv⟩ := (h.room (i + k) (by omega)).1
      rw [hv]; rfl) (j - i) (by rw [List.length_replicate]; omega)
    rw [Nat.add_sub_cancel' (by omega)] at hin
    rw [hin, List.getElem_replicate]
set_option maxHeartbeats 4000000 in
set_option maxRecDepth 100000 in
theorem mul64_1 {n : Nat} {W : World} (hn : n ≤ 1024) : Calls Tryz.prog 102 #[.int .u64 1, .int .u64 (n : Int)] W fun r W' => r = .returned (.tuple #[.int .u64 0, .int .u64 (n : Int)]) ∧ W' = W := by
  have a1 : bits .and .u64 (n : Int) 4294967295 = (n : Int) := by
    rw [and_mask 32 (n : Int) 4294967295 (by omega) (by omega) (by decide) (by decide)]
    omega
  have a2 : bits .and .u64 1 4294967295 = 1 := by decide +kernel
  have a3 : bits .and .u64 0 4294967295 = 0 := by decide +kernel
  have d1 : (n : Int) / 4294967296 = 0 := by omega
  have w1 : IntKind.u64.wrap (n : Int) = (n : Int) := u64w_id (by omega) (by omega)
  go_enter Tryz.func102, Tryz.ntmps102
  go_wp2_with fail
  go_ret2
  exact ⟨rfl, rfl⟩
set_option maxHeartbeats 4000000 in
set_option maxRecDepth 100000 in
theorem mul_1 {n : Nat} {W : World} (hn : n ≤ 1024) : Calls Tryz.prog 69 #[.int .u64 1, .int .u64 (n : Int)] W fun r W' => r = .returned (.tuple #[.int .u64 0, .int .u64 (n : Int)]) ∧ W' = W := by
  have HX := hide (mul64_1 (W := W) hn)
  go_enter Tryz.func69, Tryz.ntmps69
  go_wp2_with fail
  refine (unhide HX).mono ?_
  rintro _ w ⟨rfl, rfl⟩
  go_wp2_with fail
  go_ret2
  exact ⟨rfl, rfl⟩
theorem Rp.drewP {g n i : Nat} {y : Int} {w : World} (h : Rp g n i y w) : Rp g n i y w.drew := ⟨h.room.drew, fun j hj => h.cells j hj, h.lt⟩
theorem size5P : (Tryz.prog.info? 5).map (·.size) = some 1 := by kernel_rfl
theorem copy_rep {g n i : Nat} {y : Int} (hi : 1 ≤ i) (hlt : i < n) : ∃ m : Nat, 1 ≤ m ∧ i + m ≤ n ∧ ∀ w, Rp g n i y w → (Builtin.copy_ #[22, 22] 3 #[.slice (some ⟨g, i, none⟩) (n - i) (n - i), .slice (some ⟨g, 0, none⟩) i n]).run Tryz.prog w = .ok (.int .i64 (m : Int)) (w.setCells g i (List.replicate m (.int .u8 y))) := by
  refine ⟨min i (n - i), by omega, by omega, fun w hw => ?_⟩
  have h := run_copy_cells (P := Tryz.prog) w 22 22 3 5 g i (n - i) (n - i) ⟨g, 0, none⟩ i n (List.replicate (min i (n - i)) (.int .u8 y)) Tryz.underlying22 size5P (by rw [List.length_replicate]) (fun j v hj => by
    have hlt : j < (List.replicate (min i (n - i)) (Value.int .u8 y)).length := (List.getElem?_eq_some_iff.1 hj).1
    rw [List.length_replicate] at hlt
    have e : (⟨g, 0, none⟩ : Addr).add j = ⟨g, j, none⟩ := by rw [add_off, Nat.zero_add]
    rw [e, hw.cells j (by omega), ← hj, List.getElem?_replicate, if_pos hlt]) (fun j hj => by rw [List.length_replicate] at hj; obtain ⟨v, hv⟩ := (hw.room (i + j) (by omega)).1; rw [hv]; rfl) (fun j hj => by rw [List.length_replicate] at hj; exact (hw.room (i + j) (by omega)).2) (fun v hv => by rw [List.eq_of_mem_replicate hv]; rfl)
  rw [List.length_replicate] at h
  exact h
set_option maxHeartbeats 4000000 in
set_option maxRecDepth 100000 in
theorem repeat_any {sb so n : Nat} {y : Int} {W : World} (hn : n ≤ 1024) (hy : W.cell? ⟨sb, so, none⟩ = some (.int .u8 y)) : Calls Tryz.prog 41 #[.slice (some ⟨sb, so, none⟩) 1 1, .int .i64 (n : Int)] W fun r W' => ∃ g s, r = .returned (.slice (some ⟨g, 0, none⟩) n s) ∧ n ≤ s ∧ W.heap.size ≤ g ∧ (∀ j, j < n → W'.cell? ⟨g, j, none⟩ = some (.int .u8 y)) ∧ Fr [] W W' := by
  by_cases h0 : n = 0
  · subst h0
    have h00 : ((0 : Nat) : Int) = 0 := rfl
    go_enter Tryz.func41, Tryz.ntmps41
    go_wp2_with fail
    go_ret
    exact ⟨W.heap.size, 0, rfl, Nat.le_refl _, Nat.le_refl _, fun j hj => by omega, (Fr.refl [] W).alloc _⟩
  · have n0 : ((n : Int) == 0) = false := by simp; omega
    have n1 : ¬ (n : Int) < 0 := by omega
    have n2 : ¬ (n : Int) = 0 := by omega
    obtain ⟨cs, hrunM, hle, -⟩ := Lib.run_makeNoZero (P := Tryz.prog) W #[3] 22 5 Tryz.underlying22 n (by omega)
    have hcall : (callFunc 70 #[.int .i64 (n : Int)]).run Tryz.prog W = .ok (.value (.slice (some ⟨W.heap.size, 0, none⟩) n cs.size)) ((W.alloc (.cells cs 5)).drewN 2) := by
      rw [run_callFunc_extern Tryz.func70 (by kernel_rfl) (by kernel_rfl) (by kernel_rfl) (e := Extern.BytealgMakeNoZero.makeNoZero #[3] #[22]) (by kernel_rfl), hrunM]
      rfl
    clear hrunM
    have hb := (below1 W (.cells cs 5))
    have hd : Below W.heap.size W ((W.alloc (.cells cs 5)).drewN 2) := below_drewN hb 2
    have hR0 : Rp W.heap.size n 0 y ((W.alloc (.cells cs 5)).drewN 2) := ⟨fun o ho => ⟨⟨_, by rw [World.cell?_drewN, World.cell?_alloc_new]; exact Array.getElem?_eq_getElem (by omega)⟩, by simp [go_sem]⟩, fun j hj => by omega, by simp [go_sem]⟩
    have hy0 := hd.cell (p := ⟨sb, so, none⟩) (World.block_lt_of_cell? W _ hy)
    rw [hy] at hy0
    have hcp := run_copy_cells (P := Tryz.prog) ((W.alloc (.cells cs 5)).drewN 2) 22 22 3 5 W.heap.size 0 n n ⟨sb, so, none⟩ 1 1 (List.replicate 1 (.int .u8 y)) Tryz.underlying22 size5P (by rw [List.length_replicate]; exact (Nat.min_eq_left (by omega)).symm) (fun j v hj => by
      cases j with
      | zero => injection hj with hj; rw [← hj]; exact hy0
      | succ j => cases hj) (fun j hj => by rw [List.length_replicate] at hj; obtain ⟨v, hv⟩ := (hR0.room (0 + j) (by omega)).1; rw [hv]; rfl) (fun j hj => by rw [List.length_replicate] at hj; exact (hR0.room (0 + j) (by omega)).2) (by simp [Value.oneCell'])
    rw [List.length_replicate] at hcp
    have HR : Hid (Rp W.heap.size n 1 y (((W.alloc (.cells cs 5)).drewN 2).setCells W.heap.size 0 [.int .u8 y])) := hide (hR0.copy (m := 1) (by omega))
    have HF : Hid (Fr [] W (((W.alloc (.cells cs 5)).drewN 2).setCells W.heap.size 0 [.int .u8 y])) := hide ((Fr.of hd []).thenL (fr_cells W.heap.size (List.replicate 1 (.int .u8 y)) 0 _) (fun i hi => by simp at hi; omega))
    change (Builtin.copy_ #[22, 22] 3 #[.slice (some ⟨W.heap.size, 0, none⟩) n n, .slice (some ⟨sb, so, none⟩) 1 1]).run Tryz.prog ((W.alloc (.cells cs 5)).drewN 2) = .ok (.int .i64 1) _ at hcp
    clear hb hd hR0 hy0
    go_enter Tryz.func41, Tryz.ntmps41
    go_wp2_with fail
    refine (mul_1 hn).mono ?_
    rintro _ w0 ⟨rfl, hww⟩
    subst hww
    have n3 : ¬ (9223372036854775807 : Int) < (n : Int) := by omega
    have n4 : ¬ (8192 : Int) < (n : Int) := by omega
    have n5 : ((n : Int) == 0) = false := n0
    go_wp2_with fail
    clear hcall hcp
    generalize ((w0.alloc (.cells cs 5)).drewN 2).setCells w0.heap.size 0 [.int .u8 y] = w2 at *
    go_loopw [10] (fun v10 wr => ∃ i : Nat, 1 ≤ i ∧ i ≤ n ∧ v10 = .int .i64 (i : Int) ∧ Rp w0.heap.size n i y wr ∧ Fr [] w0 wr) (fun v10 _ => n - (intOf v10).toNat)
    case atStart => exact ⟨1, Nat.le_refl _, by omega, rfl, unhide HR, unhide HF⟩
    case round =>
      obtain ⟨i, hi, hin, rfl, hR, hF⟩ := hrel
      clear HR HF
      by_cases hlt : i < n
      · have hi' : (i : Int) < (n : Int) := by omega
        have hi2 : ¬ (n : Int) < (i : Int) := by omega
        have hi3 : (0 : Int) ≤ (i : Int) := by omega
        have hi4 : ¬ n = i := by omega
        have hi5 : i ≤ n := hin
        obtain ⟨m, hm1, hm2, hcp⟩ := copy_rep (g := w0.heap.size) (y := y) hi hlt
        have hwm : IntKind.i64.wrap ((i : Int) + (m : Int)) = (i : Int) + (m : Int) := i64_id (by omega) (by omega)
        have HP := hide hcp
        have HR := hide hR
        have HF := hide hF
        clear hR hF hcp
        go_wp2_with fail
        refine wp_region_held_drew (S := fun w => Rp w0.heap.size n 0 y w) (by kernel_rfl) ?_ (fun hHeld => ?_)
        · (try dsimp only)
          exact ⟨(unhide HR).room, fun j hj => by omega, (unhide HR).lt⟩
        refine lst0 10 (by kernel_rfl) ?_
        refine tkA 0 67 1 ?_
        refine tkA 1 68 3 ?_
        refine tkA 2 69 7 ?_
        refine tkA 3 70 15 ?_
        refine tkA 4 71 31 ?_
        refine tkA 5 72 63 ?_
        refine tkA 6 73 127 ?_
        refine rdA 7 255 (fun Kk hKk => ?_)
        rw [if_pos (by rfl)]
        refine oper_copy (by rfl) (by rfl) (unhide HP _ ((unhide HR).drewP)) ?_
        have HR := hide ((unhide HR).drewP.copy (m := m) hm2)
        have HF := hide ((unhide HF).drew.thenL (fr_cells w0.heap.size (List.replicate m (.int .u8 y)) i _) (fun i hi => by simp at hi; omega))
        generalize wr.drew.setCells w0.heap.size i (List.replicate m (.int .u8 y)) = w3 at *
        refine hKk.out _ _ ?_ (fun hHeld => ?_)
        · (try dsimp only)
          exact ⟨(unhide HR).room, fun j hj => by omega, (unhide HR).lt⟩
        clear hKk Kk
        (try simp only [Act.put, List.setIfInBounds_toArray, List.set_cons_zero, List.set_cons_succ])
        refine tkA 8 75 511 ?_
        refine tkA 9 10 1023 ?_
        refine wpAnyH_done (by kernel_rfl) ?_ _
        go_wp2_with fail
        exact ⟨⟨i + m, by omega, by omega, by go_num, unhide HR, unhide HF⟩, by simp [intOf]; omega⟩
      · obtain rfl : i = n := by omega
        have HR := hide hR
        have HF := hide hF
        clear hR hF
        go_wp2_with fail
        go_ret
        exact ⟨w0.heap.size, i, rfl, Nat.le_refl _, Nat.le_refl _, (unhide HR).cells, unhide HF⟩
end Go.Proofs.YtjoonmpjcophnaaGreatDoor
namespace Go.Proofs.YtjoonmpjcophnaaGreatDoor
open Go.RowKit

theorem els_bq {w : World} {P : Nat → Prop} : ∀ {L : List (Int × Int)} {cs : List Value}, Els eGq w P L cs → Bq L
  | [], _, _ => fun x hx => by cases hx
  | y :: L, _, ⟨_, _, _, hx, hr⟩ => fun x h => by
    rcases List.mem_cons.1 h with rfl | h
    · exact hx.2
    · exact els_bq hr x h
theorem Sls.bq {w : World} {P : Nat → Prop} {L : List (Int × Int)} {v : Value} (h : Sls eGq w P L v) : Bq L := by
  obtain ⟨_, h1, _⟩ := h
  exact els_bq h1
/-- Why there may not be as many. -/
def tmE (L : List (Int × Int)) : Int := if 4294967295 < sumN L then 110 else if 1024 < sumN L then 3 else 0
theorem sum_next {L : List (Int × Int)} {i : Nat} {x : Int × Int} (h : L[i]? = some x) : sumN (L.take (i + 1)) = sumN (L.take i) + x.1 := by
  rw [List.take_add_one, h]
  exact sum_put _ _
theorem Bq.take {L : List (Int × Int)} (h : Bq L) (i : Nat) : Bq (L.take i) := fun x hx => h x (List.mem_of_mem_take hx)
set_option maxHeartbeats 4000000 in
set_option maxRecDepth 100000 in
theorem toomany_any {L : List (Int × Int)} {P : Nat → Prop} {v : Value} {W : World} (hl : L.length ≤ 4096) (h : Sls eGq W P L v) : Calls Tryz.prog 40 #[v] W fun r W' => r = .returned (.int .i64 (tmE L)) ∧ Fr [] W W' := by
  have hB := h.bq
  obtain ⟨a1, c1, rfl, -, h1⟩ := h.open
  have H1 := hide h1
  have HB := hide hB
  clear h1 h
  have hsum := hB.sum
  go_enter Tryz.func40, Tryz.ntmps40
  go_wp2_with fail
  go_loopw [3, 8] (fun v3 v8 wr => ∃ (i : Nat), i ≤ L.length ∧ v8 = .int .i64 (i : Int) ∧ v3 = .int .u64 (sumN (L.take i)) ∧ Fr [] W wr) (fun _ v8 _ => L.length - (intOf v8).toNat)
  case atStart => exact ⟨0, by omega, rfl, rfl, Fr.refl _ _⟩
  case round =>
    obtain ⟨i, hi, rfl, rfl, hF⟩ := hrel
    by_cases hlt : i < L.length
    · have hi' : (i : Int) < (L.length : Int) := by omega
      have hi2 : (0 : Int) ≤ (i : Int) := by omega
      rcases unhide H1 with h0 | ⟨b1, o1, rfl, -, k1⟩
      · omega
      have hx := List.getElem?_eq_getElem hlt
      have hn := sum_next hx
      obtain ⟨_, ⟨rfl, hr1, hr2⟩, k1⟩ := k1 i L[i] hx
      have hs1 := ((unhide HB).take i).sum
      have hs2 := ((unhide HB).take (i + 1)).sum
      have ht1 : (L.take i).length ≤ 4096 := by rw [List.length_take]; omega
      have ht2 : (L.take (i + 1)).length ≤ 4096 := by rw [List.length_take]; omega
      generalize L[i] = x at *
      have g10 := hF.keep (k1 0 (by decide)) (by simp)
      have g11 := hF.keep (k1 1 (by decide)) (by simp)
      change wr.cell? ⟨b1, o1 + i * 2, none⟩ = some (.int .u32 x.1) at g10
      change wr.cell? ⟨b1, o1 + i * 2 + 1, none⟩ = some (.int .u8 x.2) at g11
      have w1 : IntKind.u64.wrap x.1 = x.1 := u64w_id (by omega) (by omega)
      have w2 : IntKind.u64.wrap (sumN (L.take i) + x.1) = sumN (L.take i) + x.1 := u64w_id (by omega) (by omega)
      have HN := hide hn
      have HF := hide hF
      clear k1 hF hn hs1 hs2 hx
      go_wp2_with fail
      exact ⟨⟨i + 1, by omega, by go_num, by rw [unhide HN], (unhide HF).alloc _⟩, by simp [intOf]; omega⟩
    · obtain rfl : i = L.length := by omega
      rw [List.take_length]
      have HF := hide hF
      clear hF
      by_cases c1 : 4294967295 < sumN L
      · have c1' : (4294967296 : Int) ≤ sumN L := by omega
        have e0 : tmE L = 110 := by unfold tmE; rw [if_pos c1]
        have E0 := hide e0
        clear e0
        go_wp2_with fail
        go_ret
        exact ⟨by rw [unhide E0]; rfl, unhide HF⟩
      · have c1' : ¬ (4294967296 : Int) ≤ sumN L := by omega
        by_cases c2 : 1024 < sumN L
        · have e0 : tmE L = 3 := by unfold tmE; rw [if_neg c1, if_pos c2]
          have E0 := hide e0
          clear e0
          go_wp2_with fail
          go_ret
          exact ⟨by rw [unhide E0]; rfl, unhide HF⟩
        · have e0 : tmE L = 0 := by unfold tmE; rw [if_neg c1, if_neg c2]
          have E0 := hide e0
          clear e0
          go_wp2_with fail
          go_ret
          exact ⟨by rw [unhide E0]; rfl, unhide HF⟩
theorem bys_rep (n : Nat) (y : Int) : bys (List.replicate n y) = List.replicate n (Value.int .u8 y) := by simp [bys]
section
variable {c : Nat} {a : Option Addr} {len cap k : Nat} {xs : List Int} {e : Int} {W : World}
theorem rlocals_why {L : List (Int × Int)} {k2 : Nat} {e1 : Int} (h : Rd (rList rPair) xs k e L k2 e1) (he : (if e1 = 0 then tmE L else e1) ≠ 0) : Rd rLoc xs k e [] k2 (if e1 = 0 then tmE L else e1) := by
  by_cases h1 : e1 = 0
  · subst h1
    rw [if_pos rfl] at he ⊢
    unfold tmE at he ⊢
    by_cases c1 : 4294967295 < sumN L
    · rw [if_pos c1]
      exact rlocals_110 h c1
    · rw [if_neg c1] at he ⊢
      by_cases c2 : 1024 < sumN L
      · rw [if_pos c2]
        exact rlocals_3 h c1 c2
      · rw [if_neg c2] at he
        exact absurd rfl he
  · rw [if_neg h1]
    exact rlocals_nil h h1
theorem tm_zero {L : List (Int × Int)} {e1 : Int} (he : (if e1 = 0 then tmE L else e1) = 0) : e1 = 0 ∧ ¬ 1024 < sumN L := by
  by_cases h1 : e1 = 0
  · rw [if_pos h1] at he
    unfold tmE at he
    by_cases c1 : 4294967295 < sumN L
    · rw [if_pos c1] at he; exact absurd he (by decide)
    · rw [if_neg c1] at he
      by_cases c2 : 1024 < sumN L
      · rw [if_pos c2] at he; exact absurd he (by decide)
      · exact ⟨h1, c2⟩
  · rw [if_neg h1] at he
    exact absurd he h1
set_option maxHeartbeats 8000000 in
set_option maxRecDepth 100000 in
theorem p_locals (h : Cs c a len cap xs k e W) (hm : Mk W) (hc : 4 ≤ c) : Calls Tryz.prog 13 #[.pointer (some ⟨c, 0, none⟩)] W fun r W' => ∃ (L : List Int) (p : Option Addr) (s k' : Nat) (e' : Int), r = .returned (.slice p L.length s) ∧ Rd rLoc xs k e L k' e' ∧ (e' = 0 → Slc W' (fun b => W.heap.size ≤ b) L.length (bys L) (.slice p L.length s)) ∧ Cs c a len cap xs k' e' W' ∧ Mk W' ∧ Fr [c] W W' := by
  have hcl := h.1.lt
  have HAl : Hid (∀ p, a = some p → 0 < len → p.block < W.heap.size) := hide h.2.1.lt
  have hb := below1 W (.cells #[.pointer (some ⟨c, 0, none⟩)] 53)
  have HV := vr_new [.pointer (some ⟨c, 0, none⟩)] 53 W
  have hq : W.heap.size < (W.alloc (.cells #[.pointer (some ⟨c, 0, none⟩)] 53)).heap.size := by simp
  have hB : Tab (W.alloc (.cells #[.pointer (some ⟨c, 0, none⟩)] 53)) W.heap.size [.pointer (some ⟨c, 0, none⟩)] := HV.tab
  have HF0 := hide (Fr.of hb [c])
  have HX := hide (list36_any (q := W.heap.size) (h.bel hb) (J := fun w => Mk w ∧ Tab w W.heap.size [.pointer (some ⟨c, 0, none⟩)] ∧ W.heap.size < w.heap.size) ⟨hm.below hb, hB, hq⟩ (fun w w' l hJ hf hl => ⟨hJ.1.fr hf (fun i hi => by rcases hl i hi with q | q <;> omega), hJ.2.1.fr hf (fun hi => by rcases hl _ hi with q | q <;> omega), Nat.lt_of_lt_of_le hJ.2.2 hf.size⟩)
    (fun k e w hw hC hJ => (clos37_any hC hJ.1 hc hJ.2.1 hJ.2.2 (by omega)).mono (by rintro _ w' ⟨y, cs, k1, e1, rfl, hD, hR, hC2, hM2, hB2, hF⟩; exact ⟨y, cs, k1, e1, rfl, hD, hR, hC2, ⟨hM2, hB2, Nat.lt_of_lt_of_le hJ.2.2 hF.size⟩, hF⟩)))
  have HB0 := hide hB
  clear h hm hb HV hB
  have z0 := (unhide HB0) 0 _ rfl
  go_enter Tryz.func13, Tryz.ntmps13
  go_wp2_with fail
  refine (unhide HX).mono ?_
  rintro _ w1 ⟨L, g, k1, e1, rfl, hD, hS, hlen, hC, hJ, hF⟩
  have HD := hide hD
  have HS := hide hS
  have HC := hide hC
  have HM := hide hJ.1
  have HB := hide hJ.2.1
  have hq1 := hJ.2.2
  have HF := hide ((unhide HF0).trans hF)
  clear hD hS hC hJ hF HX z0 HB0
  go_wp2_with fail
  refine wp_region_held_drew (S := fun w' => w'.cell? ⟨W.heap.size, 0, none⟩ = some (.pointer (some ⟨c, 0, none⟩))) (by kernel_rfl) ?_ (fun hHeld => ?_)
  · (try dsimp only)
    exact (unhide HB) 0 _ rfl
  refine lst0 4 (by kernel_rfl) ?_
  refine tkA 0 10 1 ?_
  refine tkA 1 11 3 ?_
  have hdr : Fr [] w1 w1.drew := (Fr.refl [] w1).drew
  have HS := hide ((unhide HS).fr hdr (by simp))
  have HC := hide ((unhide HC).fr hdr (by simp) (by simp))
  have HM := hide ((unhide HM).fr hdr (by simp))
  have HB := hide ((unhide HB).fr hdr (by simp))
  have HF := hide ((unhide HF).thenL hdr (by simp))
  have hq1 : W.heap.size < w1.drew.heap.size := hq1
  generalize w1.drew = w1 at *
  refine rdA 2 7 (fun Kk hKk => ?_)
  go_simp
  refine (toomany_any hlen (unhide HS)).mono ?_
  rintro _ w2 ⟨rfl, hF⟩
  have HS := hide ((unhide HS).fr hF (by simp))
  have HC := hide ((unhide HC).fr hF (by simp) (by simp))
  have HM := hide ((unhide HM).fr hF (by simp))
  have HB := hide ((unhide HB).fr hF (by simp))
  have HF := hide ((unhide HF).thenL hF (by simp))
  have hq2 := Nat.lt_of_lt_of_le hq1 hF.size
  clear hF
  (try go_wp2_with fail)
  refine hKk.out _ _ ?_ (fun hHeld => ?_)
  · (try dsimp only)
    exact (unhide HB) 0 _ rfl
  clear hKk Kk
  (try simp only [List.setIfInBounds_toArray, List.set_cons_zero, List.set_cons_succ])
  refine rdA 3 15 (fun Kk hKk => ?_)
  go_simp
  refine (Fail_any (unhide HC)).mono ?_
  rintro _ w3 ⟨rfl, hC, hF⟩
  have HS := hide ((unhide HS).mono (P' := fun b => W.heap.size < b ∧ b < w2.heap.size) (fun b hb hp => ⟨by simp at hp; omega, hb⟩) |>.fr hF (by simp; omega))
  have HC3 := hide hC
  have HM := hide ((unhide HM).fr hF (by simp; omega))
  have HB := hide ((unhide HB).fr hF (by simp; omega))
  have HF := hide ((unhide HF).trans hF)
  have hq3 := hF.size
  clear hC hF
  (try go_wp2_with fail)
  refine hKk.out _ _ ?_ (fun hHeld => ?_)
  · (try dsimp only)
    exact (unhide HB) 0 _ rfl
  clear hKk Kk
  (try simp only [List.setIfInBounds_toArray, List.set_cons_zero, List.set_cons_succ])
  refine wpAnyH_done (by kernel_rfl) ?_ _
  have z0 := (unhide HB) 0 _ rfl
  go_wp2_with fail
  have hEq := hide (rlocals_why (unhide HD))
  have hZ := hide (fun (q : (if e1 = 0 then tmE L else e1) = 0) => tm_zero (L := L) (e1 := e1) q)
  have HK := hide (fun (q : (if e1 = 0 then tmE L else e1) = 0) => rlocals_ok (xs := xs) (k := k) (e := e) (L := L) (k2 := k1) (by have h := unhide HD; rwa [(tm_zero q).1] at h) (tm_zero q).2)
  generalize (if e1 = 0 then tmE L else e1) = e2 at *
  refine (err_any (unhide HC3)).mono ?_
  rintro _ w ⟨rfl, rfl⟩
  by_cases he : e2 = 0
  · subst he
    obtain ⟨hz1, hz2⟩ := unhide hZ rfl
    subst hz1
    have HL := hide (unhide HK rfl)
    have hbq := (unhide HS).bq
    obtain ⟨a1, c1, ev, -, h1⟩ := (unhide HS).open
    injection ev with ev1 ev2 ev3
    subst ev1
    have H1 := hide h1
    have HQ := hide hbq
    clear h1 HS HD hEq hZ HK ev2 ev3
    go_wp2_with fail
    clear z0
    go_loopw [4, 19] (fun v4 v19 wr => ∃ (i : Nat), i ≤ L.length ∧ v19 = .int .i64 (i : Int) ∧ wr.ownsRow w.heap.size 5 1 v4 (spread (L.take i)).length (bys (spread (L.take i))) ∧ Fr [] w wr) (fun _ v19 _ => L.length - (intOf v19).toNat)
    case atStart => exact ⟨0, by omega, rfl, World.ownsRow_nil _ _ _ _, Fr.refl _ _⟩
    case round =>
      obtain ⟨i, hi, rfl, hO, hFr⟩ := hrel
      by_cases hlt : i < L.length
      · have hi' : (i : Int) < (L.length : Int) := by omega
        have hi2 : (0 : Int) ≤ (i : Int) := by omega
        rcases unhide H1 with h0 | ⟨b1, o1, hb1, -, k1'⟩
        · omega
        injection hb1 with hb1
        injection hb1 with hb1 hb2
        subst hb1
        subst hb2
        have hx := List.getElem?_eq_getElem hlt
        have hs1 := spread_take (unhide HQ) (i + 1)
        obtain ⟨_, ⟨rfl, hr1, hr2⟩, k1'⟩ := k1' i L[i] hx
        obtain ⟨n, hn⟩ := Int.eq_ofNat_of_zero_le hr1
        have hsp := spread_next (x := L[i].1) (y := L[i].2) hx
        generalize L[i] = x at *
        obtain ⟨x1, y⟩ := x
        dsimp only at *
        subst hn
        rw [Int.toNat_natCast] at hsp
        rw [hsp, List.length_append, List.length_replicate] at hs1
        have g10 := hFr.keep (k1' 0 (by decide)) (by simp)
        have g11 := hFr.keep (k1' 1 (by decide)) (by simp)
        change wr.cell? ⟨g, 0 + i * 2, none⟩ = some (.int .u32 (n : Int)) at g10
        change wr.cell? ⟨g, 0 + i * 2 + 1, none⟩ = some (.int .u8 y) at g11
        rw [Nat.zero_add] at g10 g11
        have w1 : IntKind.i64.wrap (n : Int) = (n : Int) := i64_id (by omega) (by omega)
        have HO := hide hO
        have HFr := hide hFr
        have HP := hide hsp
        have hs1' : (spread (L.take i)).length + n ≤ 1024 := by omega
        clear k1' hO hFr hsp hx hs1
        go_wp2_with fail
        have hcl : ((wr.alloc (.cells #[.int .u32 (n : Int), .int .u8 y] 132)).alloc (.cells #[.int .u8 y] 5)).cell? ⟨wr.heap.size + 1, 0, none⟩ = some (.int .u8 y) := by simp [go_sem]
        have hA : Fr [] wr ((wr.alloc (.cells #[.int .u32 (n : Int), .int .u8 y] 132)).alloc (.cells #[.int .u8 y] 5)) := Fr.of (below2 wr _ _) []
        generalize (wr.alloc (.cells #[.int .u32 (n : Int), .int .u8 y] 132)).alloc (.cells #[.int .u8 y] 5) = wa at *
        refine (repeat_any (by omega) hcl).mono ?_
        rintro _ w4 ⟨g2, s2, rfl, hs2, hg2, hcells, hF4⟩
        have hA4 := hA.trans hF4
        have hO4 := rof_fr (unhide HO) hA4 (by simp)
        have hsz4 := ((unhide HFr).trans hA4).size
        obtain ⟨v', w5, hrun, o1, o2, o3⟩ := app_own (c := s2) (t := 22) (e := 5) Tryz.underlying22 iU8 zero8 size8 bytes8 rfl (by decide) hO4 (m := n) (news := List.replicate n (.int .u8 y)) (a := ⟨g2, 0, none⟩) (by simp) (fun j u hj => by
          have hlt : j < (List.replicate n (Value.int .u8 y)).length := (List.getElem?_eq_some_iff.1 hj).1
          rw [List.length_replicate] at hlt
          rw [add_off, Nat.zero_add, hcells j hlt, ← hj, List.getElem?_replicate, if_pos hlt]) (fun v hv => by rw [List.eq_of_mem_replicate hv]; rfl) (by unfold maxLen; omega) (by omega) hsz4
        have HRun := hide hrun
        have HO5 := hide o1
        have HF5 := hide (((unhide HFr).trans hA4).thenL (fr_grown o2) (fun i hi => .inr (World.ownsRow.lt hO4 i (by simpa using hi)).1))
        clear hrun o1 o2 o3 hO4 hA hA4 hcells hF4 HO HFr
        go_wp2_with (at_builtin; refine wpList_appT (t := 22) (by rfl) rfl rfl (unhide HRun) ?_)
        exact ⟨⟨i + 1, by omega, by go_num, by rw [unhide HP, List.length_append, List.length_replicate, bys_app, bys_rep]; exact unhide HO5, unhide HF5⟩, by simp [intOf]; omega⟩
      · obtain rfl : i = L.length := by omega
        rw [List.take_length] at hO
        obtain ⟨p, s, rfl⟩ := rof_slice hO
        have HO := hide hO
        have HFr := hide hFr
        have hsw := hFr.size
        clear hO hFr
        go_wp2_with fail
        go_ret
        exact ⟨spread L, p, s, k1, 0, rfl, unhide HL, fun _ => slc_own (unhide HO) (by decide) (fun g hg => by have := (World.ownsRow.lt (unhide HO) g hg).1; have := (unhide HF).size; omega), (unhide HC3).fr (unhide HFr) (by simp) (by simp), (unhide HM).fr (unhide HFr) (by simp), (unhide HF).thenL (unhide HFr) (by simp)⟩
  · have hne : (e2 != 0) = true := by simpa using he
    go_wp2_with fail
    go_ret
    exact ⟨[], none, 0, k1, e2, rfl, unhide hEq he, fun q => absurd q he, unhide HC3, unhide HM, unhide HF⟩
end
end Go.Proofs.YtjoonmpjcophnaaGreatDoor
namespace Go.Proofs.YtjoonmpjcophnaaGreatDoor
open Go.RowKit

section
variable {c : Nat} {a : Option Addr} {len cap k : Nat} {xs : List Int} {e : Int} {W : World} {sat : Bool}
theorem p_take2 {n : Nat} (h : Cs c a len cap xs k e W) (hb : n < 4294967296) : Calls Tryz.prog 76 #[.pointer (some ⟨c, 0, none⟩), .int .u32 (n : Int)] W fun r W' => ∃ x1 x2 x3 y k' e', r = .returned (.slice x1 x2 x3) ∧ Rd (rP n) xs k e y k' e' ∧ Sl W' x1 x2 x3 y ∧ Byt y ∧ y.length ≤ 7000 ∧ Cs c a len cap xs k' e' W' ∧ Fr [c] W W' := by
  have hby : Byt (lift (rP n) [] xs k e).1 := lift_byt h.2.2.2.1 n k e
  have hln : (lift (rP n) [] xs k e).1.length ≤ 7000 := by
    have h1 := h.2.1.1
    have h2 := h.2.2.2.2.2
    by_cases he : e = 0
    · subst he
      rw [lift_0]
      by_cases q : n ≤ (xs.drop k).length
      · rw [rP_ok q]
        show (List.take _ _).length ≤ _
        rw [List.length_take]
        rw [List.length_drop] at q ⊢
        omega
      · rw [rP_no q]
        exact Nat.zero_le _
    · rw [lift_e _ _ _ _ he]
      exact Nat.zero_le _
  exact (take_any h hb).mono (by rintro _ w ⟨x1, x2, x3, rfl, h1, hC, hF⟩; exact ⟨_, _, _, _, _, _, rfl, Rd.lift, h1.1, hby, hln, hC, hF⟩)
set_option maxHeartbeats 1000000 in
set_option maxRecDepth 100000 in
theorem new_own {x1 : Option Addr} {x2 x3 : Nat} {ys : List Int} {W : World} (h : Sl W x1 x2 x3 ys) (hl : x2 ≤ 7000) (hy : Byt ys) :
    Calls Tryz.prog 12 #[.slice x1 x2 x3] W fun r W' => ∃ c y1 y3, r = .returned (.pointer (some ⟨c, 0, none⟩)) ∧ Cs c y1 x2 y3 ys 0 0 W' ∧ W.heap.size ≤ c ∧ (∀ p, y1 = some p → 0 < x2 → W.heap.size ≤ p.block) ∧ Fr [] W W' := by
  have HC := hide (clone_any h hl)
  have HY := hide hy
  clear h hy
  go_enter Tryz.func12, Tryz.ntmps12
  go_wp2_with fail
  refine (unhide HC).mono ?_
  rintro _ w1 ⟨y1, y3, rfl, hN, hF⟩
  have HN := hide hN
  have HF := hide hF
  clear hN hF
  go_wp2_with fail
  go_ret
  refine ⟨w1.heap.size, y1, y3, rfl, ⟨⟨?_, ?_, ?_, ?_⟩, (unhide HN).1.below (below1 _ _), ?_, unhide HY, Nat.zero_le _, hl⟩, (unhide HF).size, (unhide HN).2, (unhide HF).alloc _⟩
  · simp [go_sem]
  · simp [go_sem]
  · simp [go_sem]
  · intro o ho
    have := (room_cells (cs := [.slice y1 x2 y3, .int .i64 0, .int .i64 0]) (t := 128) w1 3 (by simp)) o ho
    exact this.2
  · intro p hp h0
    have := (unhide HN).1.lt p hp h0
    omega
set_option maxHeartbeats 1000000 in
set_option maxRecDepth 100000 in
theorem p_failed (h : Cs c a len cap xs k e W) : Calls Tryz.prog 21 #[.agg #[.pointer (some ⟨c, 0, none⟩), .bool sat]] W fun r W' => r = .returned (.bool (e != 0)) ∧ Fr [] W W' := by
  have hb := below1 W (.cells #[.pointer (some ⟨c, 0, none⟩), .bool sat] 68)
  have HX := hide (err_any (h.bel hb))
  have HF := hide (Fr.of hb [])
  clear h hb
  go_enter Tryz.func21, Tryz.ntmps21
  go_wp2_with fail
  refine (unhide HX).mono ?_
  rintro _ w1 ⟨rfl, rfl⟩
  go_wp2_with fail
  go_ret
  exact ⟨rfl, unhide HF⟩
theorem rd_bytes {k k1 k2 : Nat} {e e1 e2 : Int} {n : Nat} {L : List Int} (h3 : Rd (rU 32) xs k e (n : Int) k1 e1) (h4 : Rd (rP n) xs k1 e1 L k2 e2) : Rd rBytes xs k e L k2 e2 := h3.bd (by rw [Int.toNat_natCast]; exact h4)
end
end Go.Proofs.YtjoonmpjcophnaaGreatDoor
namespace Go.Proofs.YtjoonmpjcophnaaGreatDoor
open Go.RowKit

theorem szP96 : (Tryz.prog.info? 96).map (·.size) = some 2 := by kernel_rfl
theorem mkP96 (m : Nat) (hm : m ≤ 4096) : ∃ Z : Array Value, ∀ w, (Instr.makeSlice 24 (.int .i64 (m : Int)) (.int .i64 (m : Int))).run Tryz.prog w = .ok (.slice (some ⟨w.heap.size, 0, none⟩) m m) (w.alloc (.cells (madeCells Z (m * 2)) 96)) :=
  ⟨_, fun w => make_runK 24 96 2 Tryz.underlying24 (i := (Tryz.prog.info? 96).getD default) (z := (((Tryz.prog.info? 96).getD default).zero).getD default) (by kernel_rfl) (by kernel_rfl) (by kernel_rfl) (by kernel_rfl) m hm w⟩
section
variable {c : Nat} {a : Option Addr} {len cap k : Nat} {xs : List Int} {e : Int} {W : World} {sat : Bool} {q : Nat}
set_option maxHeartbeats 4000000 in
set_option maxRecDepth 100000 in
theorem list106_any {J : World → Prop} (h : Cs c a len cap xs k e W) (hJ : J W) (HJ : ∀ w w' l, J w → Fr l w w' → (∀ i ∈ l, i = c ∨ W.heap.size ≤ i) → J w')
    (HO : ∀ k e w, W.heap.size ≤ w.heap.size → Cs c a len cap xs k e w → J w → Calls Tryz.prog 107 #[.pointer (some ⟨c, 0, none⟩)] w fun r w' => ∃ y cs k' e', r = .returned (.agg cs.toArray) ∧ Rd rFunc xs k e y k' e' ∧ eTy.rep' w' (fun b => w.heap.size ≤ b) e' y cs ∧ Cs c a len cap xs k' e' w' ∧ J w' ∧ Fr [c] w w') :
    Calls Tryz.prog 106 #[.pointer (some ⟨c, 0, none⟩), .func (.func 107) #[.pointer (some ⟨c, 0, none⟩)] #[]] W fun r W' => ∃ L g k' e', r = .returned (.slice (some ⟨g, 0, none⟩) L.length L.length) ∧ Rd (rList rFunc) xs k e L k' e' ∧ (e' = 0 → Sls eTy W' (fun b => W.heap.size ≤ b) L (.slice (some ⟨g, 0, none⟩) L.length L.length)) ∧ Cs c a len cap xs k' e' W' ∧ J W' ∧ Fr [c] W W' := by
  have HX := hide (p_count h)
  have hcl := h.1.lt
  have HAl : Hid (∀ p, a = some p → 0 < len → p.block < W.heap.size) := hide h.2.1.lt
  have HJ0 := hide hJ
  have HJs := hide HJ
  have HOs := hide HO
  clear h hJ HJ HO
  go_enter Tryz.func106, Tryz.ntmps106
  go_wp2_with fail
  refine (unhide HX).mono ?_
  rintro _ w1 ⟨m, k1, e1, rfl, hD, hm, hC, hF⟩
  have HD := hide hD
  have HC := hide hC
  have HF := hide hF
  have hsz := hF.size
  have HJ1 := hide ((unhide HJs) _ _ _ (unhide HJ0) hF (by simp))
  clear hD hC hF HX HJ0
  obtain ⟨Z, hmk⟩ := mkP96 m hm
  go_wp2_with fail
  clear hmk
  have hb := below1 w1 (.cells (madeCells Z (m * 2)) 96)
  have HM := hide (Prw.made (E := eTy) w1 m W.heap.size Z 96 e1 hsz)
  change Hid (Prw eTy w1.heap.size m W.heap.size [] e1 (w1.alloc (.cells (madeCells Z (m * 2)) 96))) at HM
  have HC := hide ((unhide HC).bel hb)
  have HF := hide ((unhide HF).bel hb)
  have HJ1 := hide ((unhide HJs) _ _ _ (unhide HJ1) (Fr.of hb []) (by simp))
  have hsz2 : (w1.alloc (.cells (madeCells Z (m * 2)) 96)).heap.size = w1.heap.size + 1 := by simp
  clear hb
  generalize w1.alloc (.cells (madeCells Z (m * 2)) 96) = w2 at *
  go_loopw [12] (fun v12 wr => ∃ (L : List _) (k2 : Nat) (e2 : Int), L.length ≤ m ∧ v12 = .int .i64 (L.length : Int) ∧ Prw eTy w1.heap.size m W.heap.size L e2 wr ∧ Cs c a len cap xs k2 e2 wr ∧ J wr ∧ Fr [c] W wr ∧ w1.heap.size < wr.heap.size ∧ (∀ s k' e', Rd (repR rFunc (m - L.length)) xs k2 e2 s k' e' → Rd (rList rFunc) xs k e (id (L ++ s)) k' e')) (fun v12 _ => m - (intOf v12).toNat)
  case atStart =>
    refine ⟨[], k1, e1, Nat.zero_le _, rfl, unhide HM, unhide HC, unhide HJ1, unhide HF, by omega, fun s k' e' hs => (unhide HD).bd ?_⟩
    rw [show ((m : Int)).toNat = m by omega]
    exact hs
  case round =>
    obtain ⟨L, k2, e2, hi, rfl, hP, hC, hJ, hF, hlg, hK⟩ := hrel
    clear HM HC HJ1 HF HD
    by_cases hlt : L.length < m
    · have hi' : (L.length : Int) < (m : Int) := by omega
      have HX := hide (unhide HOs k2 e2 _ hF.size hC hJ)
      have HP := hide hP
      have HF := hide hF
      have HK := hide hK
      clear hP hC hJ hF hK
      go_wp2_with fail
      refine (unhide HX).mono ?_
      rintro _ w3 ⟨y, cs, k3, e3, rfl, hD, hy, hC, hJ, hF2⟩
      have hsz3 := hF2.size
      have hsW := (unhide HF).size
      have h0 := hD.zero
      have HP2 := hide ((unhide HP).fr hF2 (by simp; omega) (by simp; omega) h0)
      have HF3 := hide ((unhide HF).trans hF2)
      have HKn := hide (Rd.more2 id (n := m - (L.length + 1)) (by rw [show m - (L.length + 1) + 1 = m - L.length by omega]; exact unhide HK) hD)
      have hcl2 : cs.length = 2 := hy.len
      have hone := hy.one
      have HY := hide hy
      have HC2 := hide hC
      have HJ2 := hide hJ
      clear hD hy hC hJ hF2 HX HP HF HK
      go_wp2_with ((refine wpList_storeA rfl 96 (.tmp 19) (.tmp 18) rfl rfl (g := w1.heap.size) (off := L.length * 2) (cs := cs) rfl rfl (by rw [hcl2]; exact szP96) (fun j hj => (unhide HP2).spare hlt (show j < 2 by omega)) hone ?_))
      have hFg := fr_cells w1.heap.size cs (L.length * 2) w3
      have hl1 : (L ++ [y]).length = L.length + 1 := by simp
      refine ⟨⟨L ++ [y], k3, e3, by omega, by rw [hl1]; go_num, (unhide HP2).put hlt hcl2 (fun q => q) (fun q => (unhide HY).rep q (fun b _ hb => ⟨by omega, by omega⟩)), (unhide HC2).fr hFg (by simp; omega) (fun p hp hl => by have := unhide HAl p hp hl; simp; omega), unhide HJs _ _ _ (unhide HJ2) hFg (by simp; omega), (unhide HF3).thenL hFg (by simp; omega), by have := hFg.size; omega, by rw [hl1]; exact unhide HKn⟩, by simp [intOf]; omega⟩
    · obtain rfl : m = L.length := by omega
      have HP := hide hP
      have HC := hide hC
      have HJ2 := hide hJ
      have HF := hide hF
      have HK := hide (Rd.fin id hK (.inl (by omega)))
      clear hP hC hF hJ hK
      go_wp2_with fail
      go_ret
      exact ⟨L, w1.heap.size, k2, e2, rfl, unhide HK, fun q => by subst q; exact (unhide HP).sls, unhide HC, unhide HJ2, unhide HF⟩
end
end Go.Proofs.YtjoonmpjcophnaaGreatDoor
namespace Go.Proofs.YtjoonmpjcophnaaGreatDoor
open Go.RowKit

section
variable {c : Nat} {a : Option Addr} {len cap k : Nat} {xs : List Int} {e : Int} {W : World} {sat : Bool}
set_option maxHeartbeats 4000000 in
set_option maxRecDepth 100000 in
theorem sub78_any (h : Cs c a len cap xs k e W) (hm : Mk W) (hc : 4 ≤ c) : Calls Tryz.prog 78 #[.agg #[.pointer (some ⟨c, 0, none⟩), .bool sat]] W fun r W' => ∃ L g k' e', r = .returned (.slice (some ⟨g, 0, none⟩) L.length L.length) ∧ Rd (rList rFunc) xs k e L k' e' ∧ (e' = 0 → Sls eTy W' (fun b => W.heap.size ≤ b) L (.slice (some ⟨g, 0, none⟩) L.length L.length)) ∧ Cs c a len cap xs k' e' W' ∧ Mk W' ∧ Fr [c] W W' := by
  have hcl := h.1.lt
  have hb := below1 W (.cells #[.pointer (some ⟨c, 0, none⟩), .bool sat] 68)
  have HV := vr_new [.pointer (some ⟨c, 0, none⟩), .bool sat] 68 W
  have hq : W.heap.size < (W.alloc (.cells #[.pointer (some ⟨c, 0, none⟩), .bool sat] 68)).heap.size := by simp
  have hB : Tab (W.alloc (.cells #[.pointer (some ⟨c, 0, none⟩), .bool sat] 68)) W.heap.size [.pointer (some ⟨c, 0, none⟩), .bool sat] := HV.tab
  have HF0 := hide (Fr.of hb [c])
  have HX := hide (list106_any (h.bel hb) (J := fun w => Mk w ∧ Tab w W.heap.size [.pointer (some ⟨c, 0, none⟩), .bool sat] ∧ W.heap.size < w.heap.size) ⟨hm.below hb, hB, hq⟩ (fun w w' l hJ hf hl => ⟨hJ.1.fr hf (fun i hi => by rcases hl i hi with q | q <;> omega), hJ.2.1.fr hf (fun hi => by rcases hl _ hi with q | q <;> omega), Nat.lt_of_lt_of_le hJ.2.2 hf.size⟩)
    (fun k e w hw hC hJ => (p_func hC).mono (by rintro _ w' ⟨y, v1, v2, k1, e1, rfl, hD, hR, hC2, hF⟩; exact ⟨y, [v1, v2], k1, e1, rfl, hD, El.rep'.of hR _, hC2, ⟨hJ.1.fr hF (by simp; omega), hJ.2.1.fr hF (by simp; omega), Nat.lt_of_lt_of_le hJ.2.2 hF.size⟩, hF⟩)))
  clear h hm hb HV hB
  go_enter Tryz.func78, Tryz.ntmps78
  go_wp2_with fail
  refine (unhide HX).mono ?_
  rintro _ w1 ⟨L, g, k1, e1, rfl, hD, hS, hC, hJ, hF⟩
  have HD := hide hD
  have HS := hide hS
  have HC := hide hC
  have HM := hide hJ.1
  have HF := hide ((unhide HF0).trans hF)
  clear hD hS hC hJ hF
  go_wp2_with fail
  go_ret
  exact ⟨L, g, k1, e1, rfl, unhide HD, fun q => (unhide HS q).mono (fun b _ hb => by omega), unhide HC, unhide HM, unhide HF⟩
end
end Go.Proofs.YtjoonmpjcophnaaGreatDoor
namespace Go.Proofs.YtjoonmpjcophnaaGreatDoor
open Go.RowKit

theorem szP103 : (Tryz.prog.info? 103).map (·.size) = some 9 := by kernel_rfl
theorem mkP103 (m : Nat) (hm : m ≤ 4096) : ∃ Z : Array Value, ∀ w, (Instr.makeSlice 25 (.int .i64 (m : Int)) (.int .i64 (m : Int))).run Tryz.prog w = .ok (.slice (some ⟨w.heap.size, 0, none⟩) m m) (w.alloc (.cells (madeCells Z (m * 9)) 103)) :=
  ⟨_, fun w => make_runK 25 103 9 Tryz.underlying25 (i := (Tryz.prog.info? 103).getD default) (z := (((Tryz.prog.info? 103).getD default).zero).getD default) (by kernel_rfl) (by kernel_rfl) (by kernel_rfl) (by kernel_rfl) m hm w⟩
section
variable {c : Nat} {a : Option Addr} {len cap k : Nat} {xs : List Int} {e : Int} {W : World} {sat : Bool} {q : Nat}
set_option maxHeartbeats 4000000 in
set_option maxRecDepth 100000 in
theorem list108_any {J : World → Prop} (h : Cs c a len cap xs k e W) (hJ : J W) (HJ : ∀ w w' l, J w → Fr l w w' → (∀ i ∈ l, i = c ∨ W.heap.size ≤ i) → J w')
    (HO : ∀ k e w, W.heap.size ≤ w.heap.size → Cs c a len cap xs k e w → J w → Calls Tryz.prog 109 #[.pointer (some ⟨q, 0, none⟩)] w fun r w' => ∃ y cs k' e', r = .returned (.agg cs.toArray) ∧ Rd rImp xs k e y k' e' ∧ eIm.rep' w' (fun b => w.heap.size ≤ b) e' y cs ∧ Cs c a len cap xs k' e' w' ∧ J w' ∧ Fr [c] w w') :
    Calls Tryz.prog 108 #[.pointer (some ⟨c, 0, none⟩), .func (.func 109) #[] #[.pointer (some ⟨q, 0, none⟩)]] W fun r W' => ∃ L g k' e', r = .returned (.slice (some ⟨g, 0, none⟩) L.length L.length) ∧ Rd (rList rImp) xs k e L k' e' ∧ (e' = 0 → Sls eIm W' (fun b => W.heap.size ≤ b) L (.slice (some ⟨g, 0, none⟩) L.length L.length)) ∧ Cs c a len cap xs k' e' W' ∧ J W' ∧ Fr [c] W W' := by
  have HX := hide (p_count h)
  have hcl := h.1.lt
  have HAl : Hid (∀ p, a = some p → 0 < len → p.block < W.heap.size) := hide h.2.1.lt
  have HJ0 := hide hJ
  have HJs := hide HJ
  have HOs := hide HO
  clear h hJ HJ HO
  go_enter Tryz.func108, Tryz.ntmps108
  go_wp2_with fail
  refine (unhide HX).mono ?_
  rintro _ w1 ⟨m, k1, e1, rfl, hD, hm, hC, hF⟩
  have HD := hide hD
  have HC := hide hC
  have HF := hide hF
  have hsz := hF.size
  have HJ1 := hide ((unhide HJs) _ _ _ (unhide HJ0) hF (by simp))
  clear hD hC hF HX HJ0
  obtain ⟨Z, hmk⟩ := mkP103 m hm
  go_wp2_with fail
  clear hmk
  have hb := below1 w1 (.cells (madeCells Z (m * 9)) 103)
  have HM := hide (Prw.made (E := eIm) w1 m W.heap.size Z 103 e1 hsz)
  change Hid (Prw eIm w1.heap.size m W.heap.size [] e1 (w1.alloc (.cells (madeCells Z (m * 9)) 103))) at HM
  have HC := hide ((unhide HC).bel hb)
  have HF := hide ((unhide HF).bel hb)
  have HJ1 := hide ((unhide HJs) _ _ _ (unhide HJ1) (Fr.of hb []) (by simp))
  have hsz2 : (w1.alloc (.cells (madeCells Z (m * 9)) 103)).heap.size = w1.heap.size + 1 := by simp
  clear hb
  generalize w1.alloc (.cells (madeCells Z (m * 9)) 103) = w2 at *
  go_loopw [12] (fun v12 wr => ∃ (L : List _) (k2 : Nat) (e2 : Int), L.length ≤ m ∧ v12 = .int .i64 (L.length : Int) ∧ Prw eIm w1.heap.size m W.heap.size L e2 wr ∧ Cs c a len cap xs k2 e2 wr ∧ J wr ∧ Fr [c] W wr ∧ w1.heap.size < wr.heap.size ∧ (∀ s k' e', Rd (repR rImp (m - L.length)) xs k2 e2 s k' e' → Rd (rList rImp) xs k e (id (L ++ s)) k' e')) (fun v12 _ => m - (intOf v12).toNat)
  case atStart =>
    refine ⟨[], k1, e1, Nat.zero_le _, rfl, unhide HM, unhide HC, unhide HJ1, unhide HF, by omega, fun s k' e' hs => (unhide HD).bd ?_⟩
    rw [show ((m : Int)).toNat = m by omega]
    exact hs
  case round =>
    obtain ⟨L, k2, e2, hi, rfl, hP, hC, hJ, hF, hlg, hK⟩ := hrel
    clear HM HC HJ1 HF HD
    by_cases hlt : L.length < m
    · have hi' : (L.length : Int) < (m : Int) := by omega
      have HX := hide (unhide HOs k2 e2 _ hF.size hC hJ)
      have HP := hide hP
      have HF := hide hF
      have HK := hide hK
      clear hP hC hJ hF hK
      go_wp2_with fail
      refine (unhide HX).mono ?_
      rintro _ w3 ⟨y, cs, k3, e3, rfl, hD, hy, hC, hJ, hF2⟩
      have hsz3 := hF2.size
      have hsW := (unhide HF).size
      have h0 := hD.zero
      have HP2 := hide ((unhide HP).fr hF2 (by simp; omega) (by simp; omega) h0)
      have HF3 := hide ((unhide HF).trans hF2)
      have HKn := hide (Rd.more2 id (n := m - (L.length + 1)) (by rw [show m - (L.length + 1) + 1 = m - L.length by omega]; exact unhide HK) hD)
      have hcl2 : cs.length = 9 := hy.len
      have hone := hy.one
      have HY := hide hy
      have HC2 := hide hC
      have HJ2 := hide hJ
      clear hD hy hC hJ hF2 HX HP HF HK
      go_wp2_with ((refine wpList_storeA rfl 103 (.tmp 19) (.tmp 18) rfl rfl (g := w1.heap.size) (off := L.length * 9) (cs := cs) rfl rfl (by rw [hcl2]; exact szP103) (fun j hj => (unhide HP2).spare hlt (show j < 9 by omega)) hone ?_))
      have hFg := fr_cells w1.heap.size cs (L.length * 9) w3
      have hl1 : (L ++ [y]).length = L.length + 1 := by simp
      refine ⟨⟨L ++ [y], k3, e3, by omega, by rw [hl1]; go_num, (unhide HP2).put hlt hcl2 (fun q => q) (fun q => (unhide HY).rep q (fun b _ hb => ⟨by omega, by omega⟩)), (unhide HC2).fr hFg (by simp; omega) (fun p hp hl => by have := unhide HAl p hp hl; simp; omega), unhide HJs _ _ _ (unhide HJ2) hFg (by simp; omega), (unhide HF3).thenL hFg (by simp; omega), by have := hFg.size; omega, by rw [hl1]; exact unhide HKn⟩, by simp [intOf]; omega⟩
    · obtain rfl : m = L.length := by omega
      have HP := hide hP
      have HC := hide hC
      have HJ2 := hide hJ
      have HF := hide hF
      have HK := hide (Rd.fin id hK (.inl (by omega)))
      clear hP hC hF hJ hK
      go_wp2_with fail
      go_ret
      exact ⟨L, w1.heap.size, k2, e2, rfl, unhide HK, fun q => by subst q; exact (unhide HP).sls, unhide HC, unhide HJ2, unhide HF⟩
end
end Go.Proofs.YtjoonmpjcophnaaGreatDoor
namespace Go.Proofs.YtjoonmpjcophnaaGreatDoor
open Go.RowKit

section
variable {c : Nat} {a : Option Addr} {len cap k : Nat} {xs : List Int} {e : Int} {W : World} {sat : Bool}
set_option maxHeartbeats 4000000 in
set_option maxRecDepth 100000 in
theorem sub79_any (h : Cs c a len cap xs k e W) (hm : Mk W) (hc : 4 ≤ c) : Calls Tryz.prog 79 #[.agg #[.pointer (some ⟨c, 0, none⟩), .bool sat]] W fun r W' => ∃ L g k' e', r = .returned (.slice (some ⟨g, 0, none⟩) L.length L.length) ∧ Rd (rList rImp) xs k e L k' e' ∧ (e' = 0 → Sls eIm W' (fun b => W.heap.size ≤ b) L (.slice (some ⟨g, 0, none⟩) L.length L.length)) ∧ Cs c a len cap xs k' e' W' ∧ Mk W' ∧ Fr [c] W W' := by
  have hcl := h.1.lt
  have hb := below1 W (.cells #[.pointer (some ⟨c, 0, none⟩), .bool sat] 68)
  have HV := vr_new [.pointer (some ⟨c, 0, none⟩), .bool sat] 68 W
  have hq : W.heap.size < (W.alloc (.cells #[.pointer (some ⟨c, 0, none⟩), .bool sat] 68)).heap.size := by simp
  have hB : Tab (W.alloc (.cells #[.pointer (some ⟨c, 0, none⟩), .bool sat] 68)) W.heap.size [.pointer (some ⟨c, 0, none⟩), .bool sat] := HV.tab
  have HF0 := hide (Fr.of hb [c])
  have HX := hide (list108_any (q := W.heap.size) (h.bel hb) (J := fun w => Mk w ∧ Tab w W.heap.size [.pointer (some ⟨c, 0, none⟩), .bool sat] ∧ W.heap.size < w.heap.size) ⟨hm.below hb, hB, hq⟩ (fun w w' l hJ hf hl => ⟨hJ.1.fr hf (fun i hi => by rcases hl i hi with q | q <;> omega), hJ.2.1.fr hf (fun hi => by rcases hl _ hi with q | q <;> omega), Nat.lt_of_lt_of_le hJ.2.2 hf.size⟩)
    (fun k e w hw hC hJ => (clos109_any hC hJ.1 hc hJ.2.1 hJ.2.2 (by omega)).mono (by rintro _ w' ⟨y, cs, k1, e1, rfl, hD, hR, hC2, hM2, hB2, hF⟩; exact ⟨y, cs, k1, e1, rfl, hD, hR, hC2, ⟨hM2, hB2, Nat.lt_of_lt_of_le hJ.2.2 hF.size⟩, hF⟩)))
  clear h hm hb HV hB
  go_enter Tryz.func79, Tryz.ntmps79
  go_wp2_with fail
  refine (unhide HX).mono ?_
  rintro _ w1 ⟨L, g, k1, e1, rfl, hD, hS, hC, hJ, hF⟩
  have HD := hide hD
  have HS := hide hS
  have HC := hide hC
  have HM := hide hJ.1
  have HF := hide ((unhide HF0).trans hF)
  clear hD hS hC hJ hF
  go_wp2_with fail
  go_ret
  exact ⟨L, g, k1, e1, rfl, unhide HD, fun q => (unhide HS q).mono (fun b _ hb => by omega), unhide HC, unhide HM, unhide HF⟩
end
end Go.Proofs.YtjoonmpjcophnaaGreatDoor
namespace Go.Proofs.YtjoonmpjcophnaaGreatDoor
open Go.RowKit

theorem mkP30 (m : Nat) (hm : m ≤ 4096) : ∃ Z : Array Value, ∀ w, (Instr.makeSlice 69 (.int .i64 (m : Int)) (.int .i64 (m : Int))).run Tryz.prog w = .ok (.slice (some ⟨w.heap.size, 0, none⟩) m m) (w.alloc (.cells (madeCells Z (m)) 30)) :=
  ⟨_, fun w => by have h := make_runK 69 30 1 Tryz.underlying69 (i := (Tryz.prog.info? 30).getD default) (z := (((Tryz.prog.info? 30).getD default).zero).getD default) (by kernel_rfl) (by kernel_rfl) (by kernel_rfl) (by kernel_rfl) m hm w; rw [Nat.mul_one] at h; exact h⟩
section
variable {c : Nat} {a : Option Addr} {len cap k : Nat} {xs : List Int} {e : Int} {W : World} {sat : Bool} {q : Nat}
set_option maxHeartbeats 4000000 in
set_option maxRecDepth 100000 in
theorem list114_any {J : World → Prop} (h : Cs c a len cap xs k e W) (hJ : J W) (HJ : ∀ w w' l, J w → Fr l w w' → (∀ i ∈ l, i = c ∨ W.heap.size ≤ i) → J w')
    (HO : ∀ k e w, W.heap.size ≤ w.heap.size → Cs c a len cap xs k e w → J w → Calls Tryz.prog 38 #[.pointer (some ⟨c, 0, none⟩)] w fun r w' => ∃ y cs k' e', (r = .returned (.int .u32 y) ∧ cs = [.int .u32 y]) ∧ Rd (rU 32) xs k e y k' e' ∧ eU.rep' w' (fun b => w.heap.size ≤ b) 0 y cs ∧ Cs c a len cap xs k' e' w' ∧ J w' ∧ Fr [c] w w') :
    Calls Tryz.prog 114 #[.pointer (some ⟨c, 0, none⟩), .func (.func 38) #[.pointer (some ⟨c, 0, none⟩)] #[]] W fun r W' => ∃ L g k' e', r = .returned (.slice (some ⟨g, 0, none⟩) L.length L.length) ∧ Rd (rList (rU 32)) xs k e L k' e' ∧ Sls eU W' (fun b => W.heap.size ≤ b) L (.slice (some ⟨g, 0, none⟩) L.length L.length) ∧ L.length ≤ 4096 ∧ Cs c a len cap xs k' e' W' ∧ J W' ∧ Fr [c] W W' := by
  have HX := hide (p_count h)
  have hcl := h.1.lt
  have HAl : Hid (∀ p, a = some p → 0 < len → p.block < W.heap.size) := hide h.2.1.lt
  have HJ0 := hide hJ
  have HJs := hide HJ
  have HOs := hide HO
  clear h hJ HJ HO
  go_enter Tryz.func114, Tryz.ntmps114
  go_wp2_with fail
  refine (unhide HX).mono ?_
  rintro _ w1 ⟨m, k1, e1, rfl, hD, hm, hC, hF⟩
  have HD := hide hD
  have HC := hide hC
  have HF := hide hF
  have hsz := hF.size
  have HJ1 := hide ((unhide HJs) _ _ _ (unhide HJ0) hF (by simp))
  clear hD hC hF HX HJ0
  obtain ⟨Z, hmk⟩ := mkP30 m hm
  go_wp2_with fail
  clear hmk
  have hb := below1 w1 (.cells (madeCells Z (m)) 30)
  have HM := hide (Prw.made (E := eU) w1 m W.heap.size Z 30 0 hsz)
  rw [show m * eU.k = m from Nat.mul_one m] at HM
  change Hid (Prw eU w1.heap.size m W.heap.size [] 0 (w1.alloc (.cells (madeCells Z (m)) 30))) at HM
  have HC := hide ((unhide HC).bel hb)
  have HF := hide ((unhide HF).bel hb)
  have HJ1 := hide ((unhide HJs) _ _ _ (unhide HJ1) (Fr.of hb []) (by simp))
  have hsz2 : (w1.alloc (.cells (madeCells Z (m)) 30)).heap.size = w1.heap.size + 1 := by simp
  clear hb
  generalize w1.alloc (.cells (madeCells Z (m)) 30) = w2 at *
  go_loopw [12] (fun v12 wr => ∃ (L : List _) (k2 : Nat) (e2 : Int), L.length ≤ m ∧ v12 = .int .i64 (L.length : Int) ∧ Prw eU w1.heap.size m W.heap.size L 0 wr ∧ Cs c a len cap xs k2 e2 wr ∧ J wr ∧ Fr [c] W wr ∧ w1.heap.size < wr.heap.size ∧ (∀ s k' e', Rd (repR (rU 32) (m - L.length)) xs k2 e2 s k' e' → Rd (rList (rU 32)) xs k e (id (L ++ s)) k' e')) (fun v12 _ => m - (intOf v12).toNat)
  case atStart =>
    refine ⟨[], k1, e1, Nat.zero_le _, rfl, unhide HM, unhide HC, unhide HJ1, unhide HF, by omega, fun s k' e' hs => (unhide HD).bd ?_⟩
    rw [show ((m : Int)).toNat = m by omega]
    exact hs
  case round =>
    obtain ⟨L, k2, e2, hi, rfl, hP, hC, hJ, hF, hlg, hK⟩ := hrel
    clear HM HC HJ1 HF HD
    by_cases hlt : L.length < m
    · have hi' : (L.length : Int) < (m : Int) := by omega
      have HX := hide (unhide HOs k2 e2 _ hF.size hC hJ)
      have HP := hide hP
      have HF := hide hF
      have HK := hide hK
      clear hP hC hJ hF hK
      go_wp2_with fail
      refine (unhide HX).mono ?_
      rintro _ w3 ⟨y, cs, k3, e3, ⟨rfl, rfl⟩, hD, hy, hC, hJ, hF2⟩
      have hsz3 := hF2.size
      have hsW := (unhide HF).size
      have HP2 := hide ((unhide HP).fr hF2 (by simp; omega) (by simp; omega) (fun q => q))
      have HF3 := hide ((unhide HF).trans hF2)
      have HKn := hide (Rd.more2 id (n := m - (L.length + 1)) (by rw [show m - (L.length + 1) + 1 = m - L.length by omega]; exact unhide HK) hD)
      have hcl2 : ([.int .u32 y] : List Value).length = 1 := hy.len
      have hone := hy.one
      have HY := hide hy
      have HC2 := hide hC
      have HJ2 := hide hJ
      clear hD hy hC hJ hF2 HX HP HF HK
      obtain ⟨⟨u0, r0⟩, g0⟩ := (unhide HP2).spare hlt (j := 0) (show 0 < 1 by omega)
      have r0 : w3.cell? ⟨w1.heap.size, L.length, none⟩ = some u0 := by rw [← r0]; congr 2; exact (Nat.mul_one _).symm
      have g0 : w3.frozen? ⟨w1.heap.size, L.length, none⟩ = false := by rw [← g0]; congr 2; exact (Nat.mul_one _).symm
      go_wp2_with fail
      clear r0 g0
      have hFg : Fr [w1.heap.size] w3 (w3.setCell ⟨w1.heap.size, L.length, none⟩ (.int .u32 y)) := (Fr.refl _ _).place _ _
      have hPn := (unhide HP2).put hlt hcl2 (fun q => q) (fun q => (unhide HY).rep q (fun b _ hb => ⟨by omega, by omega⟩))
      rw [show L.length * eU.k = L.length from Nat.mul_one _] at hPn
      have hl1 : (L ++ [y]).length = L.length + 1 := by simp
      refine ⟨⟨L ++ [y], k3, e3, by omega, by rw [hl1]; go_num, hPn, (unhide HC2).fr hFg (by simp; omega) (fun p hp hl => by have := unhide HAl p hp hl; simp; omega), unhide HJs _ _ _ (unhide HJ2) hFg (by simp; omega), (unhide HF3).thenL hFg (by simp; omega), by have := hFg.size; omega, by rw [hl1]; exact unhide HKn⟩, by simp [intOf]; omega⟩
    · obtain rfl : m = L.length := by omega
      have HP := hide hP
      have HC := hide hC
      have HJ2 := hide hJ
      have HF := hide hF
      have HK := hide (Rd.fin id hK (.inl (by omega)))
      clear hP hC hF hJ hK
      go_wp2_with fail
      go_ret
      exact ⟨L, w1.heap.size, k2, e2, rfl, unhide HK, (unhide HP).sls, hm, unhide HC, unhide HJ2, unhide HF⟩
end
end Go.Proofs.YtjoonmpjcophnaaGreatDoor
namespace Go.Proofs.YtjoonmpjcophnaaGreatDoor
open Go.RowKit

section
variable {c : Nat} {a : Option Addr} {len cap k : Nat} {xs : List Int} {e : Int} {W : World} {sat : Bool}
set_option maxHeartbeats 4000000 in
set_option maxRecDepth 100000 in
theorem sub80_any (h : Cs c a len cap xs k e W) (hm : Mk W) (hc : 4 ≤ c) : Calls Tryz.prog 80 #[.agg #[.pointer (some ⟨c, 0, none⟩), .bool sat]] W fun r W' => ∃ L g k' e', r = .returned (.slice (some ⟨g, 0, none⟩) L.length L.length) ∧ Rd (rList (rU 32)) xs k e L k' e' ∧ Sls eU W' (fun b => W.heap.size ≤ b) L (.slice (some ⟨g, 0, none⟩) L.length L.length) ∧ L.length ≤ 4096 ∧ Cs c a len cap xs k' e' W' ∧ Mk W' ∧ Fr [c] W W' := by
  have hcl := h.1.lt
  have hb := below1 W (.cells #[.pointer (some ⟨c, 0, none⟩), .bool sat] 68)
  have HV := vr_new [.pointer (some ⟨c, 0, none⟩), .bool sat] 68 W
  have hq : W.heap.size < (W.alloc (.cells #[.pointer (some ⟨c, 0, none⟩), .bool sat] 68)).heap.size := by simp
  have hB : Tab (W.alloc (.cells #[.pointer (some ⟨c, 0, none⟩), .bool sat] 68)) W.heap.size [.pointer (some ⟨c, 0, none⟩), .bool sat] := HV.tab
  have HF0 := hide (Fr.of hb [c])
  have HX := hide (list114_any (h.bel hb) (J := fun w => Mk w ∧ Tab w W.heap.size [.pointer (some ⟨c, 0, none⟩), .bool sat] ∧ W.heap.size < w.heap.size) ⟨hm.below hb, hB, hq⟩ (fun w w' l hJ hf hl => ⟨hJ.1.fr hf (fun i hi => by rcases hl i hi with q | q <;> omega), hJ.2.1.fr hf (fun hi => by rcases hl _ hi with q | q <;> omega), Nat.lt_of_lt_of_le hJ.2.2 hf.size⟩)
    (fun k e w hw hC hJ => (p_u32 hC).mono (by rintro _ w' ⟨y, k1, e1, rfl, hD, -, hC2, hF⟩; exact ⟨y, [.int .u32 y], k1, e1, ⟨rfl, rfl⟩, hD, El.rep'.of rfl _, hC2, ⟨hJ.1.fr hF (by simp; omega), hJ.2.1.fr hF (by simp; omega), Nat.lt_of_lt_of_le hJ.2.2 hF.size⟩, hF⟩)))
  clear h hm hb HV hB
  go_enter Tryz.func80, Tryz.ntmps80
  go_wp2_with fail
  refine (unhide HX).mono ?_
  rintro _ w1 ⟨L, g, k1, e1, rfl, hD, hS, hlen, hC, hJ, hF⟩
  have HD := hide hD
  have HS := hide hS
  have HC := hide hC
  have HM := hide hJ.1
  have HF := hide ((unhide HF0).trans hF)
  clear hD hS hC hJ hF
  go_wp2_with fail
  go_ret
  exact ⟨L, g, k1, e1, rfl, unhide HD, (unhide HS).mono (fun b _ hb => by omega), hlen, unhide HC, unhide HM, unhide HF⟩
end
end Go.Proofs.YtjoonmpjcophnaaGreatDoor
namespace Go.Proofs.YtjoonmpjcophnaaGreatDoor
theorem done_more {k n : Nat} (e5 : Int) (hk : k < n) : (if e5 = 0 then (105 : Int) else e5) = doneE 0 e5 k n := by
  by_cases q : e5 = 0 <;> simp [doneE, q, hk]
theorem done_less {k n : Nat} (e5 : Int) (hk : ¬ k < n) : e5 = doneE 0 e5 k n := by
  by_cases q : e5 = 0 <;> simp [doneE, q, hk]
theorem szP68 : (Tryz.prog.info? 68).map (·.size) = some 2 := by kernel_rfl
end Go.Proofs.YtjoonmpjcophnaaGreatDoor
