/- CdY, CeC, CfB, CfH, CgD, CgF, CgG, CfI, CeI, CfA, CgE. -/
import Derived.Test.YtalahdkgigcpfaaDoorC01
import Derived.Test.YtalahdkgigcpfaaDoorC34
import Derived.Test.YtalahdkgigcpfaaDoorC35
import Derived.Test.YtalahdkgigcpfaaDoorC39
import Derived.Test.YtalahdkgigcpfaaDoorC40
import Derived.Test.YtalahdkgigcpfaaDoorC42
import Derived.Test.YtalahdkgigcpfaaDoorC43
namespace Go.Proofs.YtalahdkgigcpfaaDoor
open Go.RowKit

theorem iIn73 : Tryd.prog.info? 73 = some ((Tryd.prog.info? 73).getD default) := by kernel_rfl
theorem size73 : ((Tryd.prog.info? 73).getD default).size = 9 := by kernel_rfl
theorem bytes73 : ((Tryd.prog.info? 73).getD default).bytes ≤ 1000 := Nat.le_of_ble_eq_true (by kernel_rfl)
theorem zero73 : ((Tryd.prog.info? 73).getD default).zero = some (.agg #[.int .i64 0, .int .u8 0, .int .u32 0, .int .u32 0, .int .u64 0, .slice none 0 0, .slice none 0 0, .slice none 0 0, .bool false]) := by kernel_rfl
end Go.Proofs.YtalahdkgigcpfaaDoor
namespace Go.Proofs.YtalahdkgigcpfaaDoor
open Go.RowKit

/-- The contract of Plain for what is smaller than n. -/
def PPlain (n : Nat) : Prop := ∀ (T : Fo) (P : Nat → Prop) (v : Value) (W : World), T.size < n → T.size ≤ 2000000 → Fov W P T v →
  Calls Tryd.prog 12 #[v] W fun r W' => ∃ p s, r = .returned (.slice p T.len s) ∧ Fov W' (fun b => P b ∧ b < W.heap.size ∨ W.heap.size ≤ b) T (.slice p T.len s) ∧ Fr [] W W'
set_option maxHeartbeats 8000000 in
set_option maxRecDepth 100000 in
theorem plain_step {n : Nat} {T : Fo} {P : Nat → Prop} {v : Value} {W : World} (HI : Hid (PPlain n)) (hs : T.size < n + 1) (hz : T.size ≤ 2000000) (h : Fov W P T v) :
  Calls Tryd.prog 12 #[v] W fun r W' => ∃ p s, r = .returned (.slice p T.len s) ∧ Fov W' (fun b => P b ∧ b < W.heap.size ∨ W.heap.size ≤ b) T (.slice p T.len s) ∧ Fr [] W W' := by
  have h := h.mono (P' := fun b => P b ∧ b < W.heap.size) (fun b h1 h2 => ⟨h2, h1⟩)
  obtain ⟨a, cap, rfl, hc, ho⟩ := h.open2
  have H := hide h
  have HO := hide ho
  have hl := T.len_le
  clear h ho
  go_enter Tryd.func12, Tryd.ntmps12
  go_wp2_with fail
  go_loopw [8, 3] (fun v8 v3 wr => ∃ (i : Nat) (cs : List Value), i ≤ T.len ∧ v8 = .int .i64 (i : Int) ∧ Ry P 73 W.heap.size v3 (T.pre i) cs 0 wr ∧ Fr [] W wr) (fun v8 _ _ => T.len - (intOf v8).toNat)
  case atStart => exact ⟨0, [], by omega, rfl, ry_nil _ _ _ _ _, Fr.refl _ _⟩
  case round =>
    obtain ⟨i, cs, hi, rfl, hW, hF⟩ := hrel
    have hpl := T.pre_len i hi
    by_cases hlt : i < T.len
    · obtain ⟨⟨⟨op, ty, aa, bb, bits, li, has⟩, t, e⟩, hat⟩ := Fo.at_some hlt
      rcases unhide HO with h0 | ⟨b, off, rfl, hp, hel⟩
      · omega
      · obtain ⟨l1, l3, t1, t3, e1, e3, hE, hL, ht, he⟩ := hel i _ t e hat
        have hsz := Fo.at_size hat
        have hi' : (i : Int) < (T.len : Int) := by omega
        have hi2 : (0 : Int) ≤ (i : Int) := by omega
        have HL := hide (hL.fr hF (by simp))
        have HT := hide (ht.fr hF (by simp))
        have HEl := hide (he.fr hF (by simp))
        have HW := hide hW
        have HFw := hide hF
        have HAt := hide hat
        obtain ⟨g0, g1, g2, g3, g4, g5, g6, g7, g8⟩ := hE.fr hF (by simp)
        dsimp only at g0 g1 g2 g3 g4 g5 g6 g7 g8
        clear hE hL ht he hW hF hat hel
        go_wp2_with fail
        clear g0 g1 g2 g3 g4 g5 g6 g7 g8
        have HFr := hide (Fr.of (below1 wr (.cells #[.int .i64 op, .int .u8 ty, .int .u32 aa, .int .u32 bb, .int .u64 bits, .slice l1 li.length l3, .slice t1 t.len t3, .slice e1 e.len e3, .bool has] 50)) [])
        have hF0 : wr.heap.size < (wr.alloc (.cells #[.int .i64 op, .int .u8 ty, .int .u32 aa, .int .u32 bb, .int .u64 bits, .slice l1 li.length l3, .slice t1 t.len t3, .slice e1 e.len e3, .bool has] 50)).heap.size := by simp
        have HE : Hid (Elt (wr.alloc (.cells #[.int .i64 op, .int .u8 ty, .int .u32 aa, .int .u32 bb, .int .u64 bits, .slice l1 li.length l3, .slice t1 t.len t3, .slice e1 e.len e3, .bool has] 50)) wr.heap.size 0 ⟨op, ty, aa, bb, bits, li, has⟩ (.slice l1 li.length l3) (.slice t1 t.len t3) (.slice e1 e.len e3)) := hide (by unfold Elt; simp [go_sem])
        have HL := hide ((unhide HL).fr (unhide HFr) (by simp))
        have HT := hide ((unhide HT).fr (unhide HFr) (by simp))
        have HEl := hide ((unhide HEl).fr (unhide HFr) (by simp))
        generalize wr.alloc (.cells #[.int .i64 op, .int .u8 ty, .int .u32 aa, .int .u32 bb, .int .u64 bits, .slice l1 li.length l3, .slice t1 t.len t3, .slice e1 e.len e3, .bool has] 50) = w1 at *
        have hdr : Fr [] w1 w1.drew := (Fr.refl _ _).drew
        have HFr := hide ((unhide HFr).trans hdr)
        have HE := hide ((unhide HE).fr hdr (by simp))
        have HL := hide ((unhide HL).fr hdr (by simp))
        have HT := hide ((unhide HT).fr hdr (by simp))
        have HEl := hide ((unhide HEl).fr hdr (by simp))
        have hF0 := Nat.lt_of_lt_of_le hF0 hdr.size
        clear hdr
        generalize hq : wr.heap.size = q at *
        have HE : Hid ((fun w' : World => w'.cell? ⟨q, 0, none⟩ = some (.int .i64 op) ∧ w'.cell? ⟨q, 1, none⟩ = some (.int .u8 ty) ∧ w'.cell? ⟨q, 2, none⟩ = some (.int .u32 aa) ∧ w'.cell? ⟨q, 3, none⟩ = some (.int .u32 bb) ∧ w'.cell? ⟨q, 4, none⟩ = some (.int .u64 bits) ∧ w'.cell? ⟨q, 5, none⟩ = some (.slice l1 li.length l3) ∧ w'.cell? ⟨q, 6, none⟩ = some (.slice t1 t.len t3) ∧ w'.cell? ⟨q, 7, none⟩ = some (.slice e1 e.len e3) ∧ w'.cell? ⟨q, 8, none⟩ = some (.bool has)) w1.drew) := hide (unhide HE)
        refine wp_region_held_drew (S := fun w' => w'.cell? ⟨q, 0, none⟩ = some (.int .i64 op) ∧ w'.cell? ⟨q, 1, none⟩ = some (.int .u8 ty) ∧ w'.cell? ⟨q, 2, none⟩ = some (.int .u32 aa) ∧ w'.cell? ⟨q, 3, none⟩ = some (.int .u32 bb) ∧ w'.cell? ⟨q, 4, none⟩ = some (.int .u64 bits) ∧ w'.cell? ⟨q, 5, none⟩ = some (.slice l1 li.length l3) ∧ w'.cell? ⟨q, 6, none⟩ = some (.slice t1 t.len t3) ∧ w'.cell? ⟨q, 7, none⟩ = some (.slice e1 e.len e3) ∧ w'.cell? ⟨q, 8, none⟩ = some (.bool has)) (by kernel_rfl) ?_ (fun hHeld => ?_)
        · (try dsimp only)
          exact unhide HE
        refine lst0 25 (by kernel_rfl) ?_
        refine tkA 0 12 1 ?_
        refine tkA 1 13 3 ?_
        refine tkA 2 14 7 ?_
        refine tkA 3 15 15 ?_
        refine tkA 4 16 31 ?_
        refine tkA 5 17 63 ?_
        refine tkA 6 18 127 ?_
        refine tkA 7 19 255 ?_
        refine tkA 8 20 511 ?_
        refine tkA 9 21 1023 ?_
        refine tkA 10 22 2047 ?_
        refine tkA 11 23 4095 ?_
        refine tkA 12 24 8191 ?_
        refine tkA 13 25 16383 ?_
        refine tkA 14 26 32767 ?_
        refine tkA 16 28 98303 ?_
        refine tkA 17 29 229375 ?_
        refine tkA 19 31 753663 ?_
        refine tkA 20 32 1802239 ?_
        refine rdA 15 1835007 (fun Kk hKk => ?_)
        go_simp
        refine (unhide HI t _ _ _ (by omega) (by omega) (unhide HT)).mono ?_
        rintro _ w3 ⟨p3, s3, rfl, hV, hF3⟩
        have HE : Hid ((fun w' : World => w'.cell? ⟨q, 0, none⟩ = some (.int .i64 op) ∧ w'.cell? ⟨q, 1, none⟩ = some (.int .u8 ty) ∧ w'.cell? ⟨q, 2, none⟩ = some (.int .u32 aa) ∧ w'.cell? ⟨q, 3, none⟩ = some (.int .u32 bb) ∧ w'.cell? ⟨q, 4, none⟩ = some (.int .u64 bits) ∧ w'.cell? ⟨q, 5, none⟩ = some (.slice l1 li.length l3) ∧ w'.cell? ⟨q, 6, none⟩ = some (.slice t1 t.len t3) ∧ w'.cell? ⟨q, 7, none⟩ = some (.slice e1 e.len e3) ∧ w'.cell? ⟨q, 8, none⟩ = some (.bool has)) w3) := hide (by obtain ⟨q0, q1, q2, q3, q4, q5, q6, q7, q8⟩ := unhide HE; exact ⟨hF3.keep q0 (by simp), hF3.keep q1 (by simp), hF3.keep q2 (by simp), hF3.keep q3 (by simp), hF3.keep q4 (by simp), hF3.keep q5 (by simp), hF3.keep q6 (by simp), hF3.keep q7 (by simp), hF3.keep q8 (by simp)⟩)
        have HL := hide ((unhide HL).fr hF3 (by simp))
        have HT := hide ((unhide HT).fr hF3 (by simp))
        have HEl := hide ((unhide HEl).fr hF3 (by simp))
        have HFr := hide ((unhide HFr).trans hF3)
        have HV3 := hide hV
        clear hV
        (try go_wp2_with fail)
        refine hKk.out _ _ ?_ (fun hHeld => ?_)
        · (try dsimp only)
          exact unhide HE
        clear hKk Kk
        (try simp only [List.setIfInBounds_toArray, List.set_cons_zero, List.set_cons_succ])
        refine rdA 18 2097151 (fun Kk hKk => ?_)
        go_simp
        refine (unhide HI e _ _ _ (by omega) (by omega) (unhide HEl)).mono ?_
        rintro _ w4 ⟨p4, s4, rfl, hV, hF4⟩
        have HE : Hid ((fun w' : World => w'.cell? ⟨q, 0, none⟩ = some (.int .i64 op) ∧ w'.cell? ⟨q, 1, none⟩ = some (.int .u8 ty) ∧ w'.cell? ⟨q, 2, none⟩ = some (.int .u32 aa) ∧ w'.cell? ⟨q, 3, none⟩ = some (.int .u32 bb) ∧ w'.cell? ⟨q, 4, none⟩ = some (.int .u64 bits) ∧ w'.cell? ⟨q, 5, none⟩ = some (.slice l1 li.length l3) ∧ w'.cell? ⟨q, 6, none⟩ = some (.slice t1 t.len t3) ∧ w'.cell? ⟨q, 7, none⟩ = some (.slice e1 e.len e3) ∧ w'.cell? ⟨q, 8, none⟩ = some (.bool has)) w4) := hide (by obtain ⟨q0, q1, q2, q3, q4, q5, q6, q7, q8⟩ := unhide HE; exact ⟨hF4.keep q0 (by simp), hF4.keep q1 (by simp), hF4.keep q2 (by simp), hF4.keep q3 (by simp), hF4.keep q4 (by simp), hF4.keep q5 (by simp), hF4.keep q6 (by simp), hF4.keep q7 (by simp), hF4.keep q8 (by simp)⟩)
        have HL := hide ((unhide HL).fr hF4 (by simp))
        have HT := hide ((unhide HT).fr hF4 (by simp))
        have HEl := hide ((unhide HEl).fr hF4 (by simp))
        have HFr := hide ((unhide HFr).trans hF4)
        have HV4 := hide hV
        clear hV
        (try go_wp2_with fail)
        have HV3 := hide ((unhide HV3).fr hF4 (by simp))
        refine hKk.out _ _ ?_ (fun hHeld => ?_)
        · (try dsimp only)
          exact unhide HE
        clear hKk Kk
        (try simp only [List.setIfInBounds_toArray, List.set_cons_zero, List.set_cons_succ])
        refine tkA 21 33 4194303 ?_
        have hs1 := (unhide HFw).size
        have hs2 := (unhide HFr).size
        obtain ⟨pp, ps, w5, hrun, hW5, hFr, hg5⟩ := Ry.app (t := 31) (ty := 73) (e2 := 0) Tryd.underlying31 iIn73 zero73 size73 rfl bytes73 rfl (unhide HW) (unhide HFr) hs1 (by omega) (hd := ⟨op, ty, aa, bb, bits, li, has⟩) (t' := t) (e' := e) (lv := .slice l1 li.length l3) (vt := .slice p3 t.len s3) (ve := .slice p4 e.len s4) rfl rfl rfl (fun q => q) (fun _ => ⟨(unhide HL).mono (fun b _ hb => .inl hb), (unhide HV3).mono (fun b _ hb => hb.elim (fun q => .inl q.1) (fun q => .inr (by have := hF0; omega))), (unhide HV4).mono (fun b _ hb => hb.elim (fun q => .inl q.1) (fun q => .inr (by have := hF3.size; have := hF0; omega)))⟩) rfl
        have HRun := hide hrun
        have HW5 := hide hW5
        have HF5 := hide (hFr W ((unhide HFw).trans (unhide HFr)) (Nat.le_refl _))
        have HE3 := HE
        have HK5 : Hid (∀ (p : Addr) (x : Value), w4.cell? p = some x → p.block = q → w5.cell? p = some x) := hide (fun p x hx hp => hg5 p x hx (by
          intro hv
          rw [hp] at hv
          have := ((unhide HW).own.lt q hv).2
          omega))
        clear hrun hW5 hFr hg5
        refine rdA 22 8388607 (fun Kk hKk => ?_)
        go_simp
        have hb5 := Fr.of (below1 w4 (.cells #[.int .i64 op, .int .u8 ty, .int .u32 aa, .int .u32 bb, .int .u64 bits, .slice l1 li.length l3, .slice p3 t.len s3, .slice p4 e.len s4, .bool has] 73)) []
        have HE : Hid ((fun w' : World => w'.cell? ⟨q, 0, none⟩ = some (.int .i64 op) ∧ w'.cell? ⟨q, 1, none⟩ = some (.int .u8 ty) ∧ w'.cell? ⟨q, 2, none⟩ = some (.int .u32 aa) ∧ w'.cell? ⟨q, 3, none⟩ = some (.int .u32 bb) ∧ w'.cell? ⟨q, 4, none⟩ = some (.int .u64 bits) ∧ w'.cell? ⟨q, 5, none⟩ = some (.slice l1 li.length l3) ∧ w'.cell? ⟨q, 6, none⟩ = some (.slice t1 t.len t3) ∧ w'.cell? ⟨q, 7, none⟩ = some (.slice e1 e.len e3) ∧ w'.cell? ⟨q, 8, none⟩ = some (.bool has)) (w4.alloc (.cells #[.int .i64 op, .int .u8 ty, .int .u32 aa, .int .u32 bb, .int .u64 bits, .slice l1 li.length l3, .slice p3 t.len s3, .slice p4 e.len s4, .bool has] 73))) := hide (by obtain ⟨q0, q1, q2, q3, q4, q5, q6, q7, q8⟩ := unhide HE; exact ⟨hb5.keep q0 (by simp), hb5.keep q1 (by simp), hb5.keep q2 (by simp), hb5.keep q3 (by simp), hb5.keep q4 (by simp), hb5.keep q5 (by simp), hb5.keep q6 (by simp), hb5.keep q7 (by simp), hb5.keep q8 (by simp)⟩)
        refine hKk.out _ _ ?_ (fun hHeld => ?_)
        · (try dsimp only)
          exact unhide HE
        clear hKk Kk
        (try simp only [List.setIfInBounds_toArray, List.set_cons_zero, List.set_cons_succ])
        clear hb5
        refine rdA 23 16777215 (fun Kk hKk => ?_)
        rw [if_pos (by rfl)]
        refine oper_app (by rfl) (by rfl) (unhide HRun) ?_
        have HE : Hid ((fun w' : World => w'.cell? ⟨q, 0, none⟩ = some (.int .i64 op) ∧ w'.cell? ⟨q, 1, none⟩ = some (.int .u8 ty) ∧ w'.cell? ⟨q, 2, none⟩ = some (.int .u32 aa) ∧ w'.cell? ⟨q, 3, none⟩ = some (.int .u32 bb) ∧ w'.cell? ⟨q, 4, none⟩ = some (.int .u64 bits) ∧ w'.cell? ⟨q, 5, none⟩ = some (.slice l1 li.length l3) ∧ w'.cell? ⟨q, 6, none⟩ = some (.slice t1 t.len t3) ∧ w'.cell? ⟨q, 7, none⟩ = some (.slice e1 e.len e3) ∧ w'.cell? ⟨q, 8, none⟩ = some (.bool has)) w5) := hide (by obtain ⟨q0, q1, q2, q3, q4, q5, q6, q7, q8⟩ := unhide HE3; exact ⟨(unhide HK5) _ _ q0 rfl, (unhide HK5) _ _ q1 rfl, (unhide HK5) _ _ q2 rfl, (unhide HK5) _ _ q3 rfl, (unhide HK5) _ _ q4 rfl, (unhide HK5) _ _ q5 rfl, (unhide HK5) _ _ q6 rfl, (unhide HK5) _ _ q7 rfl, (unhide HK5) _ _ q8 rfl⟩)
        refine hKk.out _ _ ?_ (fun hHeld => ?_)
        · (try dsimp only)
          exact unhide HE
        clear hKk Kk
        (try simp only [List.setIfInBounds_toArray, List.set_cons_zero, List.set_cons_succ])
        refine tkA 24 3 33554431 ?_
        refine wpAnyH_done (by kernel_rfl) ?_ _
        go_wp2_with fail
        refine ⟨⟨i + 1, cs ++ hcells ⟨op, ty, aa, bb, bits, li, has⟩ (.slice l1 li.length l3) (.slice p3 t.len s3) (.slice p4 e.len s4), by omega, by go_num, ?_, unhide HF5⟩, by simp [intOf]; omega⟩
        have hww := unhide HW5
        rw [← Fo.pre_succ (unhide HAt)] at hww
        (try rw [hpl] at hww)
        exact hww
    · obtain rfl : i = T.len := by omega
      rw [T.pre_all] at hW
      obtain ⟨p, s, rfl⟩ := hW.slice
      have HW := hide hW
      have HF := hide hF
      clear hW hF
      go_wp2_with fail
      go_ret
      exact ⟨p, s, rfl, (unhide HW).fov rfl, unhide HF⟩
theorem plain_any : ∀ n, PPlain n
  | 0 => fun _ _ _ _ h _ _ => absurd h (Nat.not_lt_zero _)
  | n + 1 => fun _ _ _ _ h hz hh => plain_step (hide (plain_any n)) h hz hh
end Go.Proofs.YtalahdkgigcpfaaDoor
namespace Go.Proofs.YtalahdkgigcpfaaDoor
open Go.RowKit

def iC (xs : List Int) : List Value := xs.map (Value.int .i64)
theorem iC_len (xs : List Int) : (iC xs).length = xs.length := by simp [iC]
theorem iC_app (xs ys : List Int) : iC (xs ++ ys) = iC xs ++ iC ys := by simp [iC]
theorem iC_at {xs : List Int} {i : Nat} (h : i < xs.length) : (iC xs)[i]? = some (.int .i64 (xs.getD i 0)) := by
  unfold iC
  rw [List.getElem?_map, List.getElem?_eq_getElem h]
  simp [List.getD, h]
set_option maxHeartbeats 8000000 in
set_option maxRecDepth 100000 in
theorem few_any {T : Fo} {P : Nat → Prop} {v : Value} {W : World} (h : Fov W P T v) (hz : T.size ≤ 4000000) : Calls Tryd.prog 15 #[v] W fun r W' => ∃ t, r = .returned (.bool t) ∧ Fr [] W W' := by
  obtain ⟨a, cap, rfl, hc, ho⟩ := h.open2
  have HO := hide ho
  have hl := T.len_le
  clear h ho
  go_enter Tryd.func15, Tryd.ntmps15
  go_wp2_with fail
  go_loopw [8, 3] (fun v8 v3 wr => ∃ (i : Nat) (z : Int), i ≤ T.len ∧ v8 = .int .i64 (i : Int) ∧ v3 = .int .i64 z ∧ Fr [] W wr) (fun v8 _ _ => T.len - (intOf v8).toNat)
  case atStart => exact ⟨0, 0, by omega, rfl, rfl, Fr.refl _ _⟩
  case round =>
    obtain ⟨i, z, hi, rfl, rfl, hF⟩ := hrel
    by_cases hlt : i < T.len
    · obtain ⟨⟨⟨op, ty, aa, bb, bits, li, has⟩, t, e⟩, hat⟩ := Fo.at_some hlt
      rcases unhide HO with h0 | ⟨b, off, rfl, hp, hel⟩
      · omega
      · obtain ⟨l1, l3, t1, t3, e1, e3, hE, hL, ht, he⟩ := hel i _ t e hat
        have hi' : (i : Int) < (T.len : Int) := by omega
        have hi2 : (0 : Int) ≤ (i : Int) := by omega
        obtain ⟨g0, g1, g2, g3, g4, g5, g6, g7, g8⟩ := hE.fr hF (by simp)
        dsimp only at g0 g1 g2 g3 g4 g5 g6 g7 g8
        have HF := hide (hF.trans (Fr.of (below1 wr (.cells #[.int .i64 op, .int .u8 ty, .int .u32 aa, .int .u32 bb, .int .u64 bits, .slice l1 li.length l3, .slice t1 t.len t3, .slice e1 e.len e3, .bool has] 50)) []))
        clear hE hL ht he hF hat hel
        go_wp2_with fail
        exact ⟨⟨i + 1, _, by omega, by go_num, rfl, unhide HF⟩, by simp [intOf]; omega⟩
    · obtain rfl : i = T.len := by omega
      have HF := hide hF
      clear hF
      go_wp2_with fail
      go_ret
      exact ⟨_, rfl, unhide HF⟩
set_option maxHeartbeats 8000000 in
set_option maxRecDepth 100000 in
theorem sames_any {xs : List Int} {P P' : Nat → Prop} {v1 v2 : Value} {W : World} (hx : xs.length ≤ 4000000) (h1 : Slc W P xs.length (iC xs) v1) (h2 : Slc W P' xs.length (iC xs) v2) : Calls Tryd.prog 22 #[v1, v2] W fun r W' => r = .returned (.bool true) ∧ Fr [] W W' := by
  obtain ⟨a1, c1, rfl, -, -, h1⟩ := h1
  obtain ⟨a2, c2, rfl, -, -, h2⟩ := h2
  have H1 := hide h1
  have H2 := hide h2
  clear h1 h2
  go_enter Tryd.func22, Tryd.ntmps22
  go_wp2_with fail
  go_loopw [14] (fun v14 wr => ∃ (i : Nat), i ≤ xs.length ∧ v14 = .int .i64 (i : Int) ∧ Fr [] W wr) (fun v14 _ => xs.length - (intOf v14).toNat)
  case atStart => exact ⟨0, by omega, rfl, Fr.refl _ _⟩
  case round =>
    obtain ⟨i, hi, rfl, hF⟩ := hrel
    by_cases hlt : i < xs.length
    · have hi' : (i : Int) < (xs.length : Int) := by omega
      have hi2 : (0 : Int) ≤ (i : Int) := by omega
      rcases unhide H1 with ⟨h0, _⟩ | ⟨b1, o1, rfl, -, k1⟩
      · omega
      rcases unhide H2 with ⟨h0, _⟩ | ⟨b2, o2, rfl, -, k2⟩
      · omega
      have g1 := hF.keep (k1 i _ (iC_at hlt)) (by simp)
      have g2 := hF.keep (k2 i _ (iC_at hlt)) (by simp)
      have HF := hide hF
      clear k1 k2 hF
      go_wp2_with fail
      exact ⟨⟨i + 1, by omega, by go_num, unhide HF⟩, by simp [intOf]; omega⟩
    · obtain rfl : i = xs.length := by omega
      have HF := hide hF
      clear hF
      go_wp2_with fail
      go_ret
      exact ⟨rfl, unhide HF⟩
end Go.Proofs.YtalahdkgigcpfaaDoor
namespace Go.Proofs.YtalahdkgigcpfaaDoor
open Go.RowKit

theorem iInt : Tryd.prog.info? 3 = some ((Tryd.prog.info? 3).getD default) := by kernel_rfl
theorem zero3 : ((Tryd.prog.info? 3).getD default).zero = some (.int .i64 0) := by kernel_rfl
theorem size3 : ((Tryd.prog.info? 3).getD default).size = 1 := by kernel_rfl
theorem bytes3 : ((Tryd.prog.info? 3).getD default).bytes = 8 := by kernel_rfl
/-- A row of ints of one's own. -/
def Oi (w : World) (B : Nat) (v : Value) (xs : List Int) : Prop := w.ownsRow B 3 1 v xs.length (iC xs)
theorem oi_nil (w : World) (B : Nat) : Oi w B (.slice none 0 0) [] := World.ownsRow_nil _ _ _ _
theorem Oi.slice {w : World} {B : Nat} {v : Value} {xs : List Int} (h : Oi w B v xs) : ∃ p s, v = .slice p xs.length s := by
  rcases h.2 with ⟨h1, h2⟩ | ⟨g, cap, cur, h1, _⟩
  · exact ⟨none, 0, by rw [h1, h2]⟩
  · exact ⟨_, _, h1⟩
theorem Oi.fr {w w' : World} {B : Nat} {v : Value} {xs : List Int} {l : List Nat} (h : Oi w B v xs) (hf : Fr l w w') (hl : ∀ g, v.ownBlock = some g → g ∉ l) : Oi w' B v xs := by
  refine ⟨h.1, ?_⟩
  rcases h.2 with hn | ⟨g, cap, cur, h1, hb, hgg, rest⟩
  · exact .inl hn
  · refine .inr ⟨g, cap, cur, h1, hb, ?_, rest⟩
    rw [hf.block g (Array.getElem?_eq_some_iff.1 hgg).1 (hl g (by rw [h1]; rfl))]
    exact hgg
theorem Oi.slc {w : World} {B : Nat} {v : Value} {xs : List Int} (h : Oi w B v xs) : Slc w (fun b => B ≤ b) xs.length (iC xs) v := slc_own h (by decide) (fun g hg => (h.lt g hg).1)
set_option maxRecDepth 100000 in
/-- What is appended to it. -/
theorem Oi.app {w : World} {B : Nat} {v u : Value} {xs ys : List Int} {P : Nat → Prop} (h : Oi w B v xs) (hB : B ≤ w.heap.size) (hu : Slc w P ys.length (iC ys) u) (hl : xs.length + ys.length ≤ 10000000000) :
    ∃ p s w', (Builtin.append_ #[42, 42] 42 #[v, u]).run Tryd.prog w = .ok (.slice p (xs.length + ys.length) s) w' ∧ Oi w' B (.slice p (xs.length + ys.length) s) (xs ++ ys) ∧ Fr v.ownBlock.toList w w' ∧ (∀ g, (Value.slice p (xs.length + ys.length) s).ownBlock = some g → v.ownBlock = some g ∨ w.heap.size ≤ g) := by
  obtain ⟨a, cap, rfl, hcap, hz, hpos⟩ := hu
  cases a with
  | none =>
    obtain ⟨h0, rfl⟩ : ys.length = 0 ∧ cap = 0 := by
      rcases hpos with ⟨h0, hc⟩ | ⟨b, off, hh, _⟩
      · exact ⟨h0, hc rfl⟩
      · cases hh
    obtain rfl : ys = [] := List.eq_nil_of_length_eq_zero h0
    obtain ⟨p, s, rfl⟩ := h.slice
    exact ⟨p, s, w, run_append_owned_none (P := Tryd.prog) (w := w) B 42 42 3 _ 1 Tryd.underlying42 iInt _ xs.length (iC xs) h, by rw [List.append_nil]; exact h, Fr.refl _ _, fun g hg => .inl hg⟩
  | some ad =>
    have hcell : ∀ j u, (iC ys)[j]? = some u → w.cell? (ad.add j) = some u := fun j u hj => by
      rcases hpos with ⟨h0, _⟩ | ⟨b, off, hh, _, hc⟩
      · rw [hz.1 h0] at hj; cases hj
      · injection hh with hh; subst hh; rw [add_off]; exact hc j u hj
    obtain ⟨v', w', hr, g1, g2, g3⟩ := app_own (c := cap) Tryd.underlying42 iInt zero3 size3 bytes3 rfl (by decide) h (m := ys.length) (news := iC ys) (a := ad) (by rw [iC_len]; omega) hcell (fun x hx => by unfold iC at hx; obtain ⟨y, _, rfl⟩ := List.mem_map.1 hx; rfl) (by unfold maxLen; omega) (by omega) hB
    have hO : Oi w' B v' (xs ++ ys) := by
      unfold Oi
      rw [iC_app, List.length_append]
      exact g1
    obtain ⟨p, s, rfl⟩ := hO.slice
    rw [List.length_append] at hr hO g3
    exact ⟨p, s, w', hr, hO, fr_grown g2, g3⟩
theorem oi_one (w : World) (x : Int) : Slc (w.alloc (.cells #[.int .i64 x] 3)) (fun b => b = w.heap.size) 1 (iC [x]) (.slice (some ⟨w.heap.size, 0, none⟩) 1 1) := by
  refine ⟨_, 1, rfl, Nat.le_refl _, ⟨fun h => absurd h (by decide), fun h => by cases h⟩, .inr ⟨w.heap.size, 0, rfl, fun _ => rfl, fun j u hj => ?_⟩⟩
  rw [Nat.zero_add, World.cell?_alloc_new]
  simpa [iC] using hj
/-- One, and two rows more. -/
theorem oi_app3 {w : World} {B N : Nat} {v ua uc : Value} {xs ya yc : List Int} (x : Int) (h : Oi w B v xs) (hB : B ≤ w.heap.size) (hN : ∀ g, v.ownBlock = some g → g < N) (ha : Slc w (fun b => N ≤ b) ya.length (iC ya) ua) (hc : Slc w (fun b => N ≤ b) yc.length (iC yc) uc) (hl : xs.length + 1 + ya.length + yc.length ≤ 10000000000) :
    ∃ p1 s1 wa p2 s2 wb p3 s3 wc, (Builtin.append_ #[42, 42] 42 #[v, .slice (some ⟨w.heap.size, 0, none⟩) 1 1]).run Tryd.prog (w.alloc (.cells #[.int .i64 x] 3)) = .ok (.slice p1 (xs.length + 1) s1) wa ∧ (Builtin.append_ #[42, 42] 42 #[.slice p1 (xs.length + 1) s1, ua]).run Tryd.prog wa = .ok (.slice p2 (xs.length + 1 + ya.length) s2) wb ∧
      (Builtin.append_ #[42, 42] 42 #[.slice p2 (xs.length + 1 + ya.length) s2, uc]).run Tryd.prog wb = .ok (.slice p3 (xs.length + 1 + ya.length + yc.length) s3) wc ∧ Oi wc B (.slice p3 (xs.length + 1 + ya.length + yc.length) s3) (xs ++ [x] ++ ya ++ yc) ∧ Fr v.ownBlock.toList w wc ∧ (∀ g, (Value.slice p3 (xs.length + 1 + ya.length + yc.length) s3).ownBlock = some g → v.ownBlock = some g ∨ w.heap.size ≤ g) := by
  have hb := below1 w (.cells #[.int .i64 x] 3)
  have hsz : (w.alloc (.cells #[.int .i64 x] 3)).heap.size = w.heap.size + 1 := by simp
  have h0 := h.fr (Fr.of hb []) (fun _ _ => by simp)
  have hvl : ∀ g, v.ownBlock = some g → g < w.heap.size := fun g hg => (World.ownsRow.lt h g hg).2
  obtain ⟨p1, s1, wa, r1, o1, f1, g1⟩ := h0.app (by omega) (ys := [x]) (oi_one w x) (by simp; omega)
  have m1 : ∀ b, b < w.heap.size → (fun b => N ≤ b) b → (fun b => N ≤ b ∧ b < w.heap.size) b := fun b h1 h2 => ⟨h2, h1⟩
  have n1 : ∀ i ∈ v.ownBlock.toList, ¬ (fun b => N ≤ b ∧ b < w.heap.size) i := fun i hi hp => by
    have hv : v.ownBlock = some i := by simpa using hi
    have := hN i hv
    have := hp.1
    omega
  have ha1 := ((ha.mono m1).fr (Fr.of hb []) (by simp)).fr f1 n1
  have hc1 := ((hc.mono m1).fr (Fr.of hb []) (by simp)).fr f1 n1
  have z1 := f1.size
  simp only [List.length_cons, List.length_nil, Nat.zero_add] at r1 o1 g1
  have e1 : (xs ++ [x]).length = xs.length + 1 := by simp
  obtain ⟨p2, s2, wb, r2, o2, f2, g2⟩ := o1.app (by omega) ha1 (by rw [e1]; omega)
  rw [e1] at r2 o2 g2
  have n2 : ∀ i ∈ (Value.slice p1 (xs.length + 1) s1).ownBlock.toList, ¬ (fun b => N ≤ b ∧ b < w.heap.size) i := fun i hi hp => by
    have hv : (Value.slice p1 (xs.length + 1) s1).ownBlock = some i := by simpa using hi
    rcases g1 i hv with q | q
    · exact n1 i (by simpa using q) hp
    · have := hp.2; omega
  have hc2 := hc1.fr f2 n2
  have z2 := f2.size
  have e2 : (xs ++ [x] ++ ya).length = xs.length + 1 + ya.length := by simp; omega
  obtain ⟨p3, s3, wc, r3, o3, f3, g3⟩ := o2.app (by omega) hc2 (by rw [e2]; omega)
  rw [e2] at r3 o3 g3
  have t1 : ∀ i ∈ (Value.slice p1 (xs.length + 1) s1).ownBlock.toList, i ∈ v.ownBlock.toList ∨ w.heap.size ≤ i := fun i hi => by
    rcases g1 i (by simpa using hi) with q | q
    · exact .inl (by simpa using q)
    · exact .inr (by omega)
  have k2 : ∀ g, (Value.slice p2 (xs.length + 1 + ya.length) s2).ownBlock = some g → v.ownBlock = some g ∨ w.heap.size ≤ g := fun g hg => by
    rcases g2 g hg with q | q
    · rcases g1 g q with q | q
      · exact .inl q
      · exact .inr (by omega)
    · exact .inr (by omega)
  have k3 : ∀ g, (Value.slice p3 (xs.length + 1 + ya.length + yc.length) s3).ownBlock = some g → v.ownBlock = some g ∨ w.heap.size ≤ g := fun g hg => by
    rcases g3 g hg with q | q
    · exact k2 g q
    · exact .inr (by omega)
  refine ⟨p1, s1, wa, p2, s2, wb, p3, s3, wc, r1, r2, r3, o3, ?_, k3⟩
  exact ((((Fr.of hb v.ownBlock.toList).trans f1).thenL f2 t1).thenL f3 (fun i hi => by
    rcases k2 i (by simpa using hi) with q | q
    · exact .inl (by simpa using q)
    · exact .inr q))
set_option maxHeartbeats 8000000 in
set_option maxRecDepth 100000 in
theorem each_any {T : Fo} {P : Nat → Prop} {v : Value} {W : World} (hz : T.size ≤ 4000000) (hk : Lok T) (h : Fov W P T v) : Calls Tryd.prog 20 #[v] W fun r W' => ∃ g p s, r = .returned (.func (.func 32) #[] #[.pointer (some ⟨g, 0, none⟩)]) ∧ W'.cell? ⟨g, 0, none⟩ = some (.slice p T.len s) ∧ Fov W' (fun b => W.heap.size ≤ b ∧ b ≠ g) T (.slice p T.len s) ∧ W.heap.size ≤ g ∧ g < W'.heap.size ∧ Fr [] W W' := by
  have HC := hide (copied_any (T.size + 1) T P v W (Nat.lt_succ_self _) hz hk h)
  obtain ⟨a, cap, rfl⟩ := h.slc
  clear h hk
  go_enter Tryd.func20, Tryd.ntmps20
  go_wp2_with fail
  refine (unhide HC).mono ?_
  rintro _ w1 ⟨p, s, rfl, hV, hF⟩
  have HV := hide hV
  have HF := hide hF
  clear hV hF
  go_wp2_with fail
  go_ret
  have hb := below1 w1 (.cells #[.slice p T.len s] 29)
  exact ⟨w1.heap.size, p, s, rfl, by simp [go_sem], ((unhide HV).mono (P' := fun b => W.heap.size ≤ b ∧ b ≠ w1.heap.size) (fun b hb h => ⟨h, by omega⟩)).fr (Fr.of hb []) (by simp), (unhide HF).size, by simp, (unhide HF).alloc _⟩
end Go.Proofs.YtalahdkgigcpfaaDoor
namespace Go.Proofs.YtalahdkgigcpfaaDoor
open Go.RowKit
attribute [local go_sem] Oper.semAt_some

theorem rows_in {P : Program} {row : String} {args : Array Value} {w : World} {R : Value → World → Prop} {n l : Nat} (h : Rows P row args w R) : RowsIn (Fence.wide.inRound l) n P row args w R :=
  fun c cs _ => let ⟨v, w', r, s⟩ := h c cs; ⟨v, w', r, stepsIn_wide.2 s⟩
theorem oper_in {P : Program} {o : Oper} {a : Act} {w : World} {K K' : Act → World → Prop} {Q : Exit → Act → World → Prop} {n l : Nat} (hd : ∀ c, o.op ≠ .defer c) (h : o.wp P a w K Q) (hK : ∀ a w, K a w → K' a w) : o.wpIn (Fence.wide.inRound l) n P a w K' Q := by
  unfold Oper.wp at h
  refine ⟨fun _ _ => trivial, ?_⟩
  rw [show (Fence.wide.inRound l).round = some l from rfl, Oper.semAt_some l _ _ hd]
  generalize (execOp a.eval o).run P w = r at h ⊢
  cases r with
  | ok x w' =>
    cases x with
    | value v => exact hK _ _ h
    | skip => exact hK _ _ h
    | defer d => exact hK _ _ h
    | enter f args =>
      refine ⟨(fun q => by cases q), CallsIn.inRound l (callsIn_wide.2 (Calls.mono h ?_))⟩
      intro e w2 he
      cases e with
      | returned v => exact hK _ _ he
      | panicked c => exact he
      | outgrown => exact he
    | row r args => exact ⟨(fun q => by cases q), rows_in (Rows.mono h fun v w2 he => hK _ _ he)⟩
    | _ => exact h.elim
  | halt x w' => cases x <;> first | exact h.elim | exact h
theorem ops_in {P : Program} {ops : Array Oper} {Q : Exit → Act → World → Prop} {n l : Nat} (hd : ∀ (i : Nat) o c, ops[i]? = some o → o.op ≠ .defer c) (hQ : ¬ LetsOut Q) : ∀ (is : List Nat) (a : Act) (w : World), wpOps P ops Q is a w → wpOpsIn (Fence.wide.inRound l) n P ops Q is a w
  | [], _, _, h => h
  | i :: rest, a, w, h => by
    rw [wpOps_cons] at h
    rw [wpOpsIn_cons]
    unfold wpOp at h
    unfold wpOpIn
    cases ho : ops[i]? with
    | none => simp only [ho] at h; exact ops_in hd hQ rest a w h
    | some o =>
      simp only [ho] at h ⊢
      by_cases hw : Region.wanted o (yielded ops a.tmps) = true
      · rw [if_pos hw] at h ⊢
        rcases h with h | h
        · exact oper_in (fun c => hd i o c ho) h (fun a w h => ops_in hd hQ rest a w h)
        · exact (hQ h.2).elim
      · rw [if_neg hw] at h ⊢
        exact ⟨fun _ _ => trivial, ops_in hd hQ rest _ w h⟩
theorem Slc.all {A B : World} {P : Nat → Prop} {n : Nat} {cs : List Value} {v : Value} (h : Slc A P n cs v) (k : ∀ (p : Addr) v, P p.block → A.cell? p = some v → B.cell? p = some v) : Slc B P n cs v := by
  obtain ⟨a, cap, h1, h2, h3, h4⟩ := h
  refine ⟨a, cap, h1, h2, h3, ?_⟩
  rcases h4 with h4 | ⟨b, off, h5, h6, h7⟩
  · exact .inl h4
  · refine .inr ⟨b, off, h5, h6, fun j u hj => k _ _ (h6 ?_) (h7 j u hj)⟩
    apply Nat.pos_of_ne_zero
    intro h0
    rw [h3.1 h0] at hj
    cases hj
theorem Enc.all {A B : World} {P : Nat → Prop} (k : ∀ (p : Addr) v, P p.block → A.cell? p = some v → B.cell? p = some v) : ∀ {T : Fo} {cs : List Value}, Enc A P T cs → Enc B P T cs
  | .nil, _, h => h
  | .cons _ _ _ _, _, ⟨vl, vt, ve, rest, h1, h2, ⟨ct, h3, h4⟩, ⟨ce, h5, h6⟩, h7⟩ => ⟨vl, vt, ve, rest, h1, h2.all k, ⟨ct, Enc.all k h3, h4.all k⟩, ⟨ce, Enc.all k h5, h6.all k⟩, Enc.all k h7⟩
theorem Fov.all {A B : World} {P : Nat → Prop} {T : Fo} {v : Value} (h : Fov A P T v) (k : ∀ (p : Addr) v, P p.block → A.cell? p = some v → B.cell? p = some v) : Fov B P T v := by
  obtain ⟨cs, h1, h2⟩ := h
  exact ⟨cs, h1.all k, h2.all k⟩

/-- What two rows have become since V: they still are two, they have grown in place or to new blocks, and nothing else has turned. -/
structure Two (B : Nat) (V u : World) (v4 v5 v4' v5' : Value) (xs ys : List Int) : Prop where
  a : Oi u B v4' xs
  b : Oi u B v5' ys
  sep : ∀ g, v4'.ownBlock = some g → v5'.ownBlock ≠ some g
  fr : Fr (v4.ownBlock.toList ++ v5.ownBlock.toList) V u
  a' : ∀ g, v4'.ownBlock = some g → v4.ownBlock = some g ∨ V.heap.size ≤ g
  b' : ∀ g, v5'.ownBlock = some g → v5.ownBlock = some g ∨ V.heap.size ≤ g
theorem Two.new {B : Nat} {V u : World} {v4 v5 v4' v5' : Value} {xs ys : List Int} (h : Two B V u v4 v5 v4' v5' xs ys) (o : Obj) : Two B V (u.alloc o) v4 v5 v4' v5' xs ys :=
  ⟨h.a.fr (Fr.of (below1 u o) []) (by simp), h.b.fr (Fr.of (below1 u o) []) (by simp), h.sep, h.fr.alloc o, h.a', h.b'⟩
theorem one_slc {u : World} {b : Nat} {x : Int} (hc : u.cell? ⟨b, 0, none⟩ = some (.int .i64 x)) : Slc u (fun _ => True) 1 (iC [x]) (.slice (some ⟨b, 0, none⟩) 1 1) := by
  refine ⟨_, 1, rfl, Nat.le_refl _, ⟨fun h => absurd h (by decide), fun h => by cases h⟩, .inr ⟨b, 0, rfl, fun _ => trivial, fun j y hj => ?_⟩⟩
  rw [Nat.zero_add]
  cases j with
  | zero => injection hj with hj; subst hj; exact hc
  | succ j => cases hj
theorem Two.app4 {B : Nat} {V u : World} {v4 v5 v4' v5' : Value} {xs ys : List Int} {b : Nat} {x : Int} (h : Two B V u v4 v5 v4' v5' xs ys) (hB : B ≤ V.heap.size) (hc : u.cell? ⟨b, 0, none⟩ = some (.int .i64 x)) (hl : xs.length ≤ 4000000) :
    ∃ p s u', (Builtin.append_ #[42, 42] 42 #[v4', .slice (some ⟨b, 0, none⟩) 1 1]).run Tryd.prog u = .ok (.slice p (xs.length + 1) s) u' ∧ Two B V u' v4 v5 (.slice p (xs.length + 1) s) v5' (xs ++ [x]) ys ∧ ∀ q y, u.cell? q = some y → v4'.ownBlock ≠ some q.block → u'.cell? q = some y := by
  have hs := h.fr.size
  obtain ⟨p, s, u', hr, ho, hf, hg⟩ := h.a.app (by omega) (ys := [x]) (one_slc hc) (by simp; omega)
  simp only [List.length_cons, List.length_nil, Nat.zero_add] at hr ho hg
  have lt5 := fun g hg => (World.ownsRow.lt h.b g hg).2
  refine ⟨p, s, u', hr, ⟨ho, h.b.fr hf (fun g hg hm => h.sep g (by simpa using hm) hg), fun g q q' => ?_, h.fr.thenL hf (fun i hi => ?_), fun g q => ?_, h.b'⟩, fun q y hq hn => hf.keep hq (fun hm => hn (by simpa using hm))⟩
  · rcases hg g q with k | k
    · exact h.sep g k q'
    · have := lt5 g q'; omega
  · rcases h.a' i (by simpa using hi) with k | k
    · exact .inl (List.mem_append.2 (.inl (by simpa using k)))
    · exact .inr k
  · rcases hg g q with k | k
    · exact h.a' g k
    · exact .inr (by omega)
theorem Two.app5 {B : Nat} {V u : World} {v4 v5 v4' v5' : Value} {xs ys : List Int} {b : Nat} {x : Int} (h : Two B V u v4 v5 v4' v5' xs ys) (hB : B ≤ V.heap.size) (hc : u.cell? ⟨b, 0, none⟩ = some (.int .i64 x)) (hl : ys.length ≤ 4000000) :
    ∃ p s u', (Builtin.append_ #[42, 42] 42 #[v5', .slice (some ⟨b, 0, none⟩) 1 1]).run Tryd.prog u = .ok (.slice p (ys.length + 1) s) u' ∧ Two B V u' v4 v5 v4' (.slice p (ys.length + 1) s) xs (ys ++ [x]) := by
  have hs := h.fr.size
  obtain ⟨p, s, u', hr, ho, hf, hg⟩ := h.b.app (by omega) (ys := [x]) (one_slc hc) (by simp; omega)
  simp only [List.length_cons, List.length_nil, Nat.zero_add] at hr ho hg
  have lt4 := fun g hg => (World.ownsRow.lt h.a g hg).2
  refine ⟨p, s, u', hr, ⟨h.a.fr hf (fun g hg hm => h.sep g hg (by simpa using hm)), ho, fun g q q' => ?_, h.fr.thenL hf (fun i hi => ?_), h.a', fun g q => ?_⟩⟩
  · rcases hg g q' with k | k
    · exact h.sep g q k
    · have := lt4 g q; omega
  · rcases h.b' i (by simpa using hi) with k | k
    · exact .inl (List.mem_append.2 (.inr (by simpa using k)))
    · exact .inr k
  · rcases hg g q with k | k
    · exact h.b' g k
    · exact .inr (by omega)
end Go.Proofs.YtalahdkgigcpfaaDoor
namespace Go.Proofs.YtalahdkgigcpfaaDoor
open Go.RowKit

theorem Oi.keep {A B : World} {N : Nat} {v : Value} {xs : List Int} (h : Oi A N v xs) (k : ∀ g o, v.ownBlock = some g → A.heap[g]? = some o → o.isCells = true → B.heap[g]? = some o) : Oi B N v xs := by
  refine ⟨h.1, ?_⟩
  rcases h.2 with hn | ⟨g, cap, cur, h1, hb, hgg, rest⟩
  · exact .inl hn
  · exact .inr ⟨g, cap, cur, h1, hb, k g _ (by rw [h1]; rfl) hgg rfl, rest⟩
theorem Oi.cells {A : World} {N : Nat} {v : Value} {xs : List Int} (h : Oi A N v xs) {g : Nat} (hg : v.ownBlock = some g) : ∃ o, A.heap[g]? = some o ∧ o.isCells = true := by
  rcases h.2 with ⟨h1, _⟩ | ⟨g', cap, cur, h1, hb, hgg, rest⟩
  · rw [h1] at hg; cases hg
  · rw [h1] at hg
    have hg : some g' = some g := hg
    injection hg with hg
    subst hg
    exact ⟨_, hgg, rfl⟩
structure Lp (W : World) (M N : Nat) (T : Fo) (vp v4 v5 : Value) (xs ds : List Int) (V : World) : Prop where
  c4 : V.cell? ⟨M, 0, none⟩ = some v4
  f4 : V.frozen? ⟨M, 0, none⟩ = false
  c5 : V.cell? ⟨M + 1, 0, none⟩ = some v5
  f5 : V.frozen? ⟨M + 1, 0, none⟩ = false
  o4 : Oi V N v4 xs
  o5 : Oi V N v5 ds
  sep : ∀ g, v4.ownBlock = some g → v5.ownBlock ≠ some g
  bel : Below W.heap.size W V
  fov : Fov V (fun b => b < M) T vp
  size : N ≤ V.heap.size
section
variable {W V V' : World} {M N : Nat} {T : Fo} {vp v4 v5 : Value} {xs ds : List Int}
theorem Lp.grown (h : Lp W M N T vp v4 v5 xs ds V) (hW : W.heap.size ≤ N) {row : Option Nat} (hg : V.grownBy V' row) (hr : ∀ r, row = some r → N ≤ r ∧ ∃ o : Obj, V.heap[r]? = some o ∧ o.isCells = false) : Lp W M N T vp v4 v5 xs ds V' := by
  have hk : ∀ (g : Nat) (o : Obj), V.heap[g]? = some o → o.isCells = true → V'.heap[g]? = some o := fun g o ho hc => (hg.block g (Array.getElem?_eq_some_iff.1 ho).1 (fun e => by obtain ⟨_, o2, h2, h3⟩ := hr g e.symm; rw [ho] at h2; cases h2; rw [hc] at h3; cases h3)).trans ho
  have hs := h.size
  exact ⟨cell_kept h.c4 hg (fun r e => (hr r e).2), (frozen_kept h.c4 hg (fun r e => (hr r e).2)).trans h.f4, cell_kept h.c5 hg (fun r e => (hr r e).2), (frozen_kept h.c5 hg (fun r e => (hr r e).2)).trans h.f5, h.o4.keep (fun g o _ => hk g o), h.o5.keep (fun g o _ => hk g o), h.sep,
    h.bel.grown hg (by omega) (fun k e => by have := (hr k e).1; omega), h.fov.all (fun p v _ hp => cell_kept hp hg (fun r e => (hr r e).2)), by have := hg.size; omega⟩
theorem Lp.row4 (h : Lp W M N T vp v4 v5 xs ds V) {g : Nat} (hg : v4.ownBlock = some g) : Rwb [M, M + 1] V g := .inr ⟨M, by simp, v4, h.c4, hg⟩
theorem Lp.row5 (h : Lp W M N T vp v4 v5 xs ds V) {g : Nat} (hg : v5.ownBlock = some g) : Rwb [M, M + 1] V g := .inr ⟨M + 1, by simp, v5, h.c5, hg⟩
theorem Lp.rows (h : Lp W M N T vp v4 v5 xs ds V) {b : Nat} (hb : Rwb [M, M + 1] V b) : b = M ∨ b = M + 1 ∨ v4.ownBlock = some b ∨ v5.ownBlock = some b := by
  rcases hb with hb | ⟨i, hi, v, hc, ho⟩
  · simp at hb
    omega
  · simp at hi
    rcases hi with rfl | rfl
    · have := h.c4; rw [hc] at this; cases this; exact .inr (.inr (.inl ho))
    · have := h.c5; rw [hc] at this; cases this; exact .inr (.inr (.inr ho))
theorem Lp.lt (h : Lp W M N T vp v4 v5 xs ds V) (hM : M + 2 ≤ N) {b : Nat} (hb : Rwb [M, M + 1] V b) : b < V.heap.size ∧ (b = M ∨ b = M + 1 ∨ N ≤ b) := by
  have hs := h.size
  rcases h.rows hb with q | q | q | q
  · exact ⟨by omega, by omega⟩
  · exact ⟨by omega, by omega⟩
  · have := World.ownsRow.lt h.o4 b q; exact ⟨by omega, by omega⟩
  · have := World.ownsRow.lt h.o5 b q; exact ⟨by omega, by omega⟩
theorem Lp.th (h : Lp W M N T vp v4 v5 xs ds V) (hM : M + 2 ≤ N) (hW : W.heap.size ≤ N) (ht : Th [M, M + 1] (N + 2) V V') : Lp W M N T vp v4 v5 xs ds V' := by
  have hs := h.size
  have hs2 := ht.bel.size
  exact ⟨(ht.bel.cell (by show M < N + 2; omega)).trans h.c4, (ht.bel.frozen (by show M < N + 2; omega)).trans h.f4, (ht.bel.cell (by show M + 1 < N + 2; omega)).trans h.c5, (ht.bel.frozen (by show M + 1 < N + 2; omega)).trans h.f5,
    h.o4.keep (fun g o hg ho hc => ht.row g o (h.row4 hg) ho hc), h.o5.keep (fun g o hg ho hc => ht.row g o (h.row5 hg) ho hc), h.sep, h.bel.trans (ht.bel.mono (by omega)), h.fov.all (fun p v hp hc => (ht.bel.cell (by omega)).trans hc), by omega⟩
/-- Both rows have grown, and are stored. -/
theorem Lp.step {u : World} {q4 q5 : Option Addr} {s4 s5 : Nat} {xs' ds' : List Int} (h : Lp W M N T vp v4 v5 xs ds V) (hM : M + 2 ≤ N) (hW : W.heap.size ≤ M)
    (h2 : Two N V u v4 v5 (.slice q4 xs'.length s4) (.slice q5 ds'.length s5) xs' ds') :
    Lp W M N T vp (.slice q4 xs'.length s4) (.slice q5 ds'.length s5) xs' ds' ((u.setCell ⟨M, 0, none⟩ (.slice q4 xs'.length s4)).setCell ⟨M + 1, 0, none⟩ (.slice q5 ds'.length s5)) ∧
      KeepsFrom N V ((u.setCell ⟨M, 0, none⟩ (.slice q4 xs'.length s4)).setCell ⟨M + 1, 0, none⟩ (.slice q5 ds'.length s5)) ∧ Kr [M, M + 1] V ((u.setCell ⟨M, 0, none⟩ (.slice q4 xs'.length s4)).setCell ⟨M + 1, 0, none⟩ (.slice q5 ds'.length s5)) := by
  have hs := h.size
  have l4 := fun g hg => World.ownsRow.lt h.o4 g hg
  have l5 := fun g hg => World.ownsRow.lt h.o5 g hg
  have k4 := fun g hg => World.ownsRow.lt h2.a g hg
  have k5 := fun g hg => World.ownsRow.lt h2.b g hg
  have hin : ∀ i ∈ v4.ownBlock.toList ++ v5.ownBlock.toList, N ≤ i := fun i hi => by
    rcases List.mem_append.1 hi with q | q
    · exact (l4 i (by simpa using q)).1
    · exact (l5 i (by simpa using q)).1
  have hfr : Fr ([M, M + 1] ++ (v4.ownBlock.toList ++ v5.ownBlock.toList)) V ((u.setCell ⟨M, 0, none⟩ (.slice q4 xs'.length s4)).setCell ⟨M + 1, 0, none⟩ (.slice q5 ds'.length s5)) :=
    ((h2.fr.mono (fun i hi => List.mem_append.2 (.inr hi))).set 0 (.inl (by simp)) _).set 0 (.inl (by simp)) _
  have hu4 : u.cell? ⟨M, 0, none⟩ = some v4 := h2.fr.keep h.c4 (fun hm => by have := hin M hm; omega)
  have hu5 : u.cell? ⟨M + 1, 0, none⟩ = some v5 := h2.fr.keep h.c5 (fun hm => by have := hin (M + 1) hm; omega)
  have g4 : u.frozen? ⟨M, 0, none⟩ = false := (h2.fr.frozen (p := ⟨M, 0, none⟩) (by show M < _; omega) (fun hm => by have := hin M hm; omega)).trans h.f4
  have g5 : u.frozen? ⟨M + 1, 0, none⟩ = false := (h2.fr.frozen (p := ⟨M + 1, 0, none⟩) (by show M + 1 < _; omega) (fun hm => by have := hin (M + 1) hm; omega)).trans h.f5
  have d4 : ((u.setCell ⟨M, 0, none⟩ (.slice q4 xs'.length s4)).setCell ⟨M + 1, 0, none⟩ (.slice q5 ds'.length s5)).cell? ⟨M, 0, none⟩ = some (.slice q4 xs'.length s4) := by
    rw [World.cell?_of_block (w := u.setCell ⟨M, 0, none⟩ (.slice q4 xs'.length s4)) (Below.heap_setCell _ _ _ _ (by show M ≠ M + 1; omega))]
    exact World.cell?_setCell_same _ _ _ hu4
  have e5 : (u.setCell ⟨M, 0, none⟩ (.slice q4 xs'.length s4)).cell? ⟨M + 1, 0, none⟩ = some v5 :=
    (World.cell?_of_block (w := u) (Below.heap_setCell _ _ _ _ (by show M + 1 ≠ M; omega))).trans hu5
  have d5 : ((u.setCell ⟨M, 0, none⟩ (.slice q4 xs'.length s4)).setCell ⟨M + 1, 0, none⟩ (.slice q5 ds'.length s5)).cell? ⟨M + 1, 0, none⟩ = some (.slice q5 ds'.length s5) := World.cell?_setCell_same _ _ _ e5
  have hblk : ∀ g o, N ≤ g → u.heap[g]? = some o → ((u.setCell ⟨M, 0, none⟩ (.slice q4 xs'.length s4)).setCell ⟨M + 1, 0, none⟩ (.slice q5 ds'.length s5)).heap[g]? = some o := fun g o hg ho => by
    rw [Below.heap_setCell _ _ _ _ (by show g ≠ M + 1; omega), Below.heap_setCell _ _ _ _ (by show g ≠ M; omega)]
    exact ho
  have hsz := hfr.size
  refine ⟨⟨d4, by rw [frozen_set, frozen_set]; exact g4, d5, by rw [frozen_set, frozen_set]; exact g5, h2.a.keep (fun g o hg ho _ => hblk g o (k4 g hg).1 ho), h2.b.keep (fun g o hg ho _ => hblk g o (k5 g hg).1 ho), h2.sep, ?_, ?_, by omega⟩, ?_, ?_⟩
  · refine h.bel.trans ⟨hfr.os, hfr.tape, hfr.output, hfr.size, fun k hk => hfr.block k (by omega) (fun hm => ?_)⟩
    rcases List.mem_append.1 hm with q | q
    · simp at q; omega
    · have := hin k q; omega
  · refine h.fov.all (fun p v hp hc => hfr.keep hc (fun hm => ?_))
    rcases List.mem_append.1 hm with q | q
    · simp at q; omega
    · have := hin _ q; omega
  · refine keepsFrom_frL hfr (fun i hi => ?_)
    rcases List.mem_append.1 hi with q | q
    · simp at q; exact .inl (by omega)
    · rcases List.mem_append.1 q with q | q
      · exact .inr (h.o4.cells (by simpa using q))
      · exact .inr (h.o5.cells (by simpa using q))
  · refine ⟨hfr.size, fun p v hp hn => hfr.keep hp (fun hm => hn ?_), fun b hb => ?_⟩
    · rcases List.mem_append.1 hm with q | q
      · exact .inl q
      · rcases List.mem_append.1 q with q | q
        · exact h.row4 (by simpa using q)
        · exact h.row5 (by simpa using q)
    · have hsu : ((u.setCell ⟨M, 0, none⟩ (.slice q4 xs'.length s4)).setCell ⟨M + 1, 0, none⟩ (.slice q5 ds'.length s5)).heap.size = u.heap.size := by simp
      rcases hb with hb | ⟨i, hi, y, hc, ho⟩
      · exact .inl (.inl hb)
      · simp at hi
        rcases hi with rfl | rfl
        · rw [d4] at hc; cases hc
          rcases h2.a' b ho with q | q
          · exact .inl (h.row4 q)
          · exact .inr ⟨q, by have := (k4 b ho).2; omega⟩
        · rw [d5] at hc; cases hc
          rcases h2.b' b ho with q | q
          · exact .inl (h.row5 q)
          · exact .inr ⟨q, by have := (k5 b ho).2; omega⟩
end
end Go.Proofs.YtalahdkgigcpfaaDoor
namespace Go.Proofs.YtalahdkgigcpfaaDoor
open Go.RowKit

section
variable {P : Program} {ops : Array Oper} {Q : Exit → Act → World → Prop} {md : Region.Mode} {S : Nat → World → Prop}
/-- Whatever order is picked; behind operation j 'S j' holds. -/
def wpAnyJ (P : Program) (md : Region.Mode) (ops : Array Oper) (Q : Exit → Act → World → Prop) (S : Nat → World → Prop) : Nat → Array Bool → Act → World → Prop
  | 0, L, a, w => Region.ready md ops L = [] ∧ Q .normal a w
  | f + 1, L, a, w => (Region.ready md ops L = [] → Q .normal a w) ∧ ∀ i ∈ Region.ready md ops L, wpOp P ops Q i (fun a' w' => S i w' ∧ wpAnyJ P md ops Q S f (L.setIfInBounds i true) a' w') a w
theorem wpAny_of_J : ∀ (f : Nat) (L : Array Bool) (a : Act) (w : World), wpAnyJ P md ops Q S f L a w → wpAny P md ops Q f L a w
  | 0, _, _, _, h => h
  | f + 1, _, _, _, h => ⟨h.1, fun i hi => wpOp_mono (fun a' w' h' => wpAny_of_J f _ a' w' h'.2) (h.2 i hi)⟩
/-- The operations that may come ahead of number i, and what each leaves holding, suffice for i's value: then i is taken first. -/
theorem wpAnyJ_first {i : Nat} {oi : Oper} {v : Value} {Si : World → Prop} (hi : ops[i]? = some oi) (hsel : ∀ (j : Nat) (o : Oper) cs b, ops[j]? = some o → o.op ≠ .select cs b) (hQ : ∀ c a w, Q (.panic c) (a.put oi.dst v) w → Q (.panic c) a w) (hown : ∀ w, Si w → S i w) :
    ∀ (f : Nat) (L : Array Bool) (a : Act) (w : World),
      (∀ j oj, ops[j]? = some oj → j ≠ i → L.getD j true = false → (∀ e ∈ oj.after, Region.binds md e = true → e.on ≠ i) → oi.apart ops oj = true ∧ ∀ w, S j w → Si w) →
      i ∈ Region.ready md ops L → YieldsIf P ops Si oi v a → Si w → wpAnyJ P md ops Q S f (L.setIfInBounds i true) (a.put oi.dst v) w → wpAnyJ P md ops Q S (f + 1) L a w := by
  intro f
  induction f with
  | zero =>
    intro L a w _ hr hy hS H
    refine ⟨fun h => absurd hr (by rw [h]; simp), fun j hj => ?_⟩
    by_cases hji : j = i
    · subst hji
      exact hy.wpOp hi hS ⟨hown _ hS, H⟩
    · have := ready_mono hj hji
      rw [H.1] at this
      cases this
  | succ f ih =>
    intro L a w hfree hr hy hS H
    refine ⟨fun h => absurd hr (by rw [h]; simp), fun j hj => ?_⟩
    by_cases hji : j = i
    · subst hji
      exact hy.wpOp hi hS ⟨hown _ hS, H⟩
    · obtain ⟨hjun, oj, hoj, hall⟩ := mem_ready.1 hj
      have hnot : ∀ e ∈ oj.after, Region.binds md e = true → e.on ≠ i := fun e he hb heq => by
        have h1 := hall e he hb
        have h0 := (mem_ready.1 hr).1
        rw [heq] at h1
        rcases Nat.lt_or_ge i L.size with h' | h'
        · simp [h'] at h0 h1
          rw [h0] at h1
          cases h1
        · simp [Array.getElem?_eq_none h'] at h1
      obtain ⟨hap, hSj⟩ := hfree j oj hoj hji hjun hnot
      refine wpOp_mono (fun a' w' h3 => ?_) (wpOp_putIf hoj hap (fun cs b => hsel i oi cs b hi) (fun cs b => hsel j oj cs b hoj) hQ hy (H.2 j (ready_mono hj hji)))
      refine ⟨h3.2.1, ih (L.setIfInBounds j true) a' w' (fun k ok hk hki hun hno => hfree k ok hk hki ?_ hno) (ready_mono hr (Ne.symm hji)) h3.1 (hSj _ h3.2.1) ?_⟩
      · by_cases hjk : j = k
        · subst hjk; exact hjun
        · rw [getD_set_ne true hjk] at hun; exact hun
      · rw [Array.setIfInBounds_comm _ _ hji]
        exact h3.2.2
/-- Each that may come ahead of i is one of G. -/
def ahead (md : Region.Mode) (ops : Array Oper) (L : Array Bool) (i : Nat) (G : List Nat) : Bool :=
  (List.range ops.size).all fun j => j == i || L.getD j true || (match ops[j]? with | some o => o.after.any (fun e => Region.binds md e && e.on == i) | none => true) || G.contains j
theorem ahead_spec {L : Array Bool} {i : Nat} {G : List Nat} (h : ahead md ops L i G = true) {j : Nat} {oj : Oper} (hoj : ops[j]? = some oj) (hji : j ≠ i) (hL : L.getD j true = false) (hn : ∀ e ∈ oj.after, Region.binds md e = true → e.on ≠ i) : j ∈ G := by
  have hj := List.all_eq_true.1 h j (List.mem_range.2 (Array.getElem?_eq_some_iff.1 hoj).1)
  simp only [Bool.or_eq_true, hoj, hL, beq_iff_eq, List.contains_iff_mem] at hj
  rcases hj with ((q | q) | q) | q
  · exact absurd q hji
  · cases q
  · obtain ⟨k, hk, he⟩ := Array.any_eq_true.1 q
    simp only [Bool.and_eq_true, beq_iff_eq] at he
    exact absurd he.2 (hn _ (Array.getElem_mem hk) he.1)
  · exact q
/-- An operation that reads is taken: number i, into slot d; m' has come up then. -/
theorem tkJ (i d m' : Nat) (G : List Nat) {Si : World → Prop} {v : Value} {op : Op} {ty : TypeId} {pos : String} {af : Array Edge} {g : Option (Nat × Bool)} {n m f : Nat} {a a' : Act} {w : World} (hG : ∀ j ∈ G, ∀ w, S j w → Si w) (hown : ∀ w, Si w → S i w) (hS : Si w)
    (h : wpAnyJ P md ops Q S f (lst n m') a' w)
    (hi : ops[i]? = some ⟨some d, op, ty, pos, af, g⟩ := by rfl)
    (hc : (Region.noSelect ops && Region.free md ops (lst n m) i && (Region.ready md ops (lst n m)).contains i && ahead md ops (lst n m) i G) = true := by kernel_rfl)
    (he : (lst n m).setIfInBounds i true = lst n m' := by kernel_rfl)
    (hQ : ∀ c a w, Q (.panic c) (a.put (some d) v) w → Q (.panic c) a w := by exact fun _ _ _ h => h)
    (hy : YieldsIf P ops Si ⟨some d, op, ty, pos, af, g⟩ v a := by (refine Or.inl ⟨by rfl, ?_⟩; ((intro w hSw; (try dsimp only at hSw); go_simp) <;> with_reducible rfl)))
    (ha : a.put (some d) v = a' := by ((try simp only [Act.put, List.setIfInBounds_toArray, List.set_cons_zero, List.set_cons_succ]); rfl)) :
    wpAnyJ P md ops Q S (f + 1) (lst n m) a w := by
  subst ha
  simp only [Bool.and_eq_true] at hc
  refine wpAnyJ_first hi (Region.noSelect_spec hc.1.1.1) hQ hown f (lst n m) a w (fun j oj hoj hji hL hn => ⟨Region.free_spec hi hc.1.1.2 j oj hoj hji hL hn, hG j (ahead_spec hc.2 hoj hji hL hn)⟩) (by simpa using hc.1.2) hy hS ?_
  rw [he]
  exact h
/-- Those that may come up, one by one. -/
theorem rdJ {rs : List Nat} {n m f : Nat} {a : Act} {w : World} (hr : Region.ready md ops (lst n m) = rs) (hne : rs ≠ []) (h : ∀ i ∈ rs, wpOp P ops Q i (fun a' w' => S i w' ∧ wpAnyJ P md ops Q S f ((lst n m).setIfInBounds i true) a' w') a w) : wpAnyJ P md ops Q S (f + 1) (lst n m) a w :=
  ⟨fun h0 => absurd (hr ▸ h0) hne, hr ▸ h⟩
theorem opJ (i m' : Nat) {ds : Option Tmp} {op : Op} {ty : TypeId} {pos : String} {af : Array Edge} {g : Option (Nat × Bool)} {n m f : Nat} {a : Act} {w : World}
    (h : ∀ K' : Act → World → Prop, (∀ a w, S i w → wpAnyJ P md ops Q S f (lst n m') a w → K' a w) → Oper.wp P ⟨ds, op, ty, pos, af, g⟩ a w K' Q)
    (hi : ops[i]? = some ⟨ds, op, ty, pos, af, g⟩ := by rfl) (hw : Region.wanted ⟨ds, op, ty, pos, af, g⟩ (yielded ops a.tmps) = true := by rfl) (he : (lst n m).setIfInBounds i true = lst n m' := by kernel_rfl) :
    wpOp P ops Q i (fun a' w' => S i w' ∧ wpAnyJ P md ops Q S f ((lst n m).setIfInBounds i true) a' w') a w := by
  unfold wpOp
  simp only [hi, hw, if_true]
  refine .inl (h _ fun a w hs hk => ⟨hs, ?_⟩)
  rw [he]
  exact hk
theorem doneJ {n m f : Nat} {a : Act} {w : World} (h : Q .normal a w) (hr : Region.ready md ops (lst n m) = [] := by kernel_rfl) : wpAnyJ P md ops Q S f (lst n m) a w := by
  cases f with
  | zero => exact ⟨hr, h⟩
  | succ f => exact ⟨fun _ => h, by rw [hr]; simp⟩
def noDef (ops : Array Oper) : Bool := ops.all fun o => match o.op with | .defer _ => false | _ => true
theorem noDef_spec (h : noDef ops = true) (i : Nat) (o : Oper) (c : Call) (ho : ops[i]? = some o) : o.op ≠ .defer c := by
  obtain ⟨hi, rfl⟩ := Array.getElem?_eq_some_iff.1 ho
  have := (Array.all_eq_true.1 h) i hi
  intro hd
  rw [hd] at this
  cases this
/-- A drawn region in a round. -/
theorem region_J {id n l k : Nat} {Q0 : Exit → Act → World → Prop} {a : Act} {w : World} (S : Nat → World → Prop) (hm : P.follows .mixedOrders = true) (hd : noDef ops = true) (hQ : ∀ a w, ¬ Q0 .outgrown a w) (hK : ∀ e a w, Q0 e a w → Q e a w) (hl : Array.replicate ops.size false = lst k 0)
    (h : wpAnyJ P .any ops Q0 S ops.size (lst k 0) a w.drew) : (Code.region id ops true).wpIn (Fence.wide.inRound l) n P Q a w := by
  refine wpIn_mono (wpIn_region_draw (Q := Q0) fun t => ?_) hK
  simp only [Region.schedule, hm, Bool.true_or, if_true]
  exact ops_in (noDef_spec hd) (fun ⟨a, w, h⟩ => hQ a w h) _ _ _ (wpAny_sound ops.size t _ a _ (wpAny_of_J _ _ _ _ (hl ▸ h)))
end
theorem cell_set_blk {w : World} {b b' o o' : Nat} {v u : Value} (h : w.cell? ⟨b, o, none⟩ = some u) (hne : b ≠ b') : (w.setCell ⟨b', o', none⟩ v).cell? ⟨b, o, none⟩ = some u := (World.cell?_of_block (w := w) (Below.heap_setCell _ _ _ _ hne)).trans h
/-- What holds behind each operation of the law's round. -/
def Sj (M Bx : Nat) (v4 v5 : Value) (op : Int) (j : Nat) (w : World) : Prop :=
  if j = 10 then True else if j = 5 ∨ j = 6 ∨ j = 9 then w.cell? ⟨M + 1, 0, none⟩ = some v5 else w.cell? ⟨M, 0, none⟩ = some v4 ∧ w.cell? ⟨Bx, 0, none⟩ = some (.int .i64 op) ∧ w.cell? ⟨M + 1, 0, none⟩ = some v5
theorem Sj.five {M Bx : Nat} {v4 v5 : Value} {op : Int} : ∀ j ∈ [0, 1, 2, 3, 4, 5, 6, 7, 8, 9], ∀ w, Sj M Bx v4 v5 op j w → w.cell? ⟨M + 1, 0, none⟩ = some v5 := by
  intro j hj w h
  simp only [List.mem_cons, List.not_mem_nil, or_false] at hj
  rcases hj with rfl | rfl | rfl | rfl | rfl | rfl | rfl | rfl | rfl | rfl
  all_goals first | exact h | exact h.2.2
theorem Sj.all {M Bx : Nat} {v4 v5 : Value} {op : Int} : ∀ j ∈ [0, 1, 2, 3, 4, 7, 8], ∀ w, Sj M Bx v4 v5 op j w → w.cell? ⟨M, 0, none⟩ = some v4 ∧ w.cell? ⟨Bx, 0, none⟩ = some (.int .i64 op) ∧ w.cell? ⟨M + 1, 0, none⟩ = some v5 := by
  intro j hj w h
  simp only [List.mem_cons, List.not_mem_nil, or_false] at hj
  rcases hj with rfl | rfl | rfl | rfl | rfl | rfl | rfl
  all_goals exact h
theorem Lp.drew {W V : World} {M N : Nat} {T : Fo} {vp v4 v5 : Value} {xs ds : List Int} (h : Lp W M N T vp v4 v5 xs ds V) : Lp W M N T vp v4 v5 xs ds V.drew :=
  ⟨h.c4, h.f4, h.c5, h.f5, h.o4, h.o5, h.sep, h.bel.drew, h.fov.all (fun _ _ _ hc => hc), h.size⟩
end Go.Proofs.YtalahdkgigcpfaaDoor
namespace Go.Proofs.YtalahdkgigcpfaaDoor
open Go.RowKit

def opsOf (d : Nat) (T : Fo) : List Int := (tellP d T).map (·.2)
def depOf (d : Nat) (T : Fo) : List Int := (tellP d T).map fun q => (q.1 : Int)
theorem opsOf_len (d : Nat) (T : Fo) : (opsOf d T).length = T.size := by rw [opsOf, List.length_map, tellP_len]
theorem depOf_len (d : Nat) (T : Fo) : (depOf d T).length = T.size := by rw [depOf, List.length_map, tellP_len]
theorem opsOf_succ {T : Fo} {i d : Nat} {h : Hd} {t e : Fo} (hat : T.at i = some (h, t, e)) : opsOf d (T.pre (i + 1)) = opsOf d (T.pre i) ++ [h.op] ++ opsOf (d + 1) t ++ opsOf (d + 1) e := by
  rw [opsOf, Fo.pre_succ hat, tellP_app]
  simp [tellP, opsOf]
theorem depOf_succ {T : Fo} {i d : Nat} {h : Hd} {t e : Fo} (hat : T.at i = some (h, t, e)) : depOf d (T.pre (i + 1)) = depOf d (T.pre i) ++ [(d : Int)] ++ depOf (d + 1) t ++ depOf (d + 1) e := by
  rw [depOf, Fo.pre_succ hat, tellP_app]
  simp [tellP, depOf]
/-- The contract of told for what is smaller than n. -/
def PTold (n : Nat) : Prop := ∀ (T : Fo) (P : Nat → Prop) (v : Value) (d : Nat) (W : World), T.size < n → T.size + d ≤ 4000000 → Fov W P T v →
  Calls Tryd.prog 21 #[v, .int .i64 (d : Int)] W fun r W' => ∃ a la ca b lb cb, r = .returned (.tuple #[.slice a la ca, .slice b lb cb]) ∧ la = T.size ∧ lb = T.size ∧ Slc W' (fun b => W.heap.size ≤ b) (opsOf d T).length (iC (opsOf d T)) (.slice a la ca) ∧ Slc W' (fun b => W.heap.size ≤ b) (depOf d T).length (iC (depOf d T)) (.slice b lb cb) ∧ Fr [] W W'
set_option maxHeartbeats 8000000 in
set_option maxRecDepth 100000 in
theorem told_step {n : Nat} {T : Fo} {P : Nat → Prop} {v : Value} {d : Nat} {W : World} (HI : Hid (PTold n)) (hs : T.size < n + 1) (hz : T.size + d ≤ 4000000) (h : Fov W P T v) :
  Calls Tryd.prog 21 #[v, .int .i64 (d : Int)] W fun r W' => ∃ a la ca b lb cb, r = .returned (.tuple #[.slice a la ca, .slice b lb cb]) ∧ la = T.size ∧ lb = T.size ∧ Slc W' (fun b => W.heap.size ≤ b) (opsOf d T).length (iC (opsOf d T)) (.slice a la ca) ∧ Slc W' (fun b => W.heap.size ≤ b) (depOf d T).length (iC (depOf d T)) (.slice b lb cb) ∧ Fr [] W W' := by
  obtain ⟨a, cap, rfl, hc, ho⟩ := h.open2
  have HO := hide ho
  have hl := T.len_le
  clear h ho
  go_enter Tryd.func21, Tryd.ntmps21
  go_wp2_with fail
  go_loopw [6, 7, 16] (fun v6 v7 v16 wr => ∃ i : Nat, i ≤ T.len ∧ v16 = .int .i64 (i : Int) ∧ Oi wr W.heap.size v6 (opsOf d (T.pre i)) ∧ Oi wr W.heap.size v7 (depOf d (T.pre i)) ∧ (∀ g, v6.ownBlock = some g → v7.ownBlock ≠ some g) ∧ Fr [] W wr) (fun _ _ v16 _ => T.len - (intOf v16).toNat)
  case atStart => exact ⟨0, by omega, rfl, oi_nil _ _, oi_nil _ _, (fun g h => by cases h), Fr.refl _ _⟩
  case round =>
    obtain ⟨i, hi, rfl, hA, hB, hne, hF⟩ := hrel
    by_cases hlt : i < T.len
    · obtain ⟨⟨⟨op, ty, aa, bb, bits, li, has⟩, t, e⟩, hat⟩ := Fo.at_some hlt
      rcases unhide HO with h0 | ⟨b, off, rfl, hp, hel⟩
      · omega
      · obtain ⟨l1, l3, t1, t3, e1, e3, hE, hL, ht, he⟩ := hel i _ t e hat
        have hsz := Fo.at_size hat
        have hps := T.pre_size i
        have hi' : (i : Int) < (T.len : Int) := by omega
        have hi2 : (0 : Int) ≤ (i : Int) := by omega
        obtain ⟨p6, s6, rfl⟩ := hA.slice
        obtain ⟨p7, s7, rfl⟩ := hB.slice
        obtain ⟨g0, g1, g2, g3, g4, g5, g6, g7, g8⟩ := hE.fr hF (by simp)
        dsimp only at g0 g1 g2 g3 g4 g5 g6 g7 g8
        have hb := below1 wr (.cells #[.int .i64 op, .int .u8 ty, .int .u32 aa, .int .u32 bb, .int .u64 bits, .slice l1 li.length l3, .slice t1 t.len t3, .slice e1 e.len e3, .bool has] 73)
        have HT := hide ((ht.fr hF (by simp)).fr (Fr.of hb []) (by simp))
        have HEl := hide ((he.fr hF (by simp)).fr (Fr.of hb []) (by simp))
        have HA := hide (hA.fr (Fr.of hb []) (by simp))
        have HB := hide (hB.fr (Fr.of hb []) (by simp))
        have HN := hide hne
        have HAl := hide (fun g hg => (World.ownsRow.lt hA g hg))
        have HBl := hide (fun g hg => (World.ownsRow.lt hB g hg))
        have hszF := hF.size
        have HF := hide (hF.trans (Fr.of hb []))
        have HC : Hid ((wr.alloc (.cells #[.int .i64 op, .int .u8 ty, .int .u32 aa, .int .u32 bb, .int .u64 bits, .slice l1 li.length l3, .slice t1 t.len t3, .slice e1 e.len e3, .bool has] 73)).cell? ⟨wr.heap.size, 0, none⟩ = some (.int .i64 op) ∧ (wr.alloc (.cells #[.int .i64 op, .int .u8 ty, .int .u32 aa, .int .u32 bb, .int .u64 bits, .slice l1 li.length l3, .slice t1 t.len t3, .slice e1 e.len e3, .bool has] 73)).cell? ⟨wr.heap.size, 7, none⟩ = some (.slice e1 e.len e3)) := hide (by simp [go_sem])
        have HAt := hide hat
        have hsz1 : (wr.alloc (.cells #[.int .i64 op, .int .u8 ty, .int .u32 aa, .int .u32 bb, .int .u64 bits, .slice l1 li.length l3, .slice t1 t.len t3, .slice e1 e.len e3, .bool has] 73)).heap.size = wr.heap.size + 1 := by simp
        have iw : IntKind.i64.wrap ((d : Int) + 1) = (d : Int) + 1 := i64_id (by omega) (by omega)
        have hq := unhide HI t _ _ (d + 1) _ (by omega) (by omega) (unhide HT)
        rw [show ((d + 1 : Nat) : Int) = (d : Int) + 1 from by omega] at hq
        clear hE hL ht he hat hel hA hB hne hF hb
        go_wp2_with fail
        clear g0 g1 g2 g3 g4 g5 g6 g7 g8
        generalize hw1 : wr.alloc (.cells #[.int .i64 op, .int .u8 ty, .int .u32 aa, .int .u32 bb, .int .u64 bits, .slice l1 li.length l3, .slice t1 t.len t3, .slice e1 e.len e3, .bool has] 73) = w1 at *
        refine hq.mono ?_
        clear hq
        rintro _ w2 ⟨a1, la1, ca1, b1, lb1, cb1, rfl, rfl, rfl, hSa, hSb, hF2⟩
        have hz2 := hF2.size
        have c7 := hF2.keep (unhide HC).2 (by simp)
        have HC0 := hide (hF2.keep (unhide HC).1 (by simp))
        have HA := hide ((unhide HA).fr hF2 (by simp))
        have HB := hide ((unhide HB).fr hF2 (by simp))
        have HF := hide ((unhide HF).trans hF2)
        have HSa := hide hSa
        have HSb := hide hSb
        have hq := unhide HI e _ _ (d + 1) _ (by omega) (by omega) ((unhide HEl).fr hF2 (by simp))
        rw [show ((d + 1 : Nat) : Int) = (d : Int) + 1 from by omega] at hq
        clear hSa hSb hF2
        go_wp2_with fail
        refine hq.mono ?_
        clear hq
        rintro _ w3 ⟨a2, la2, ca2, b2, lb2, cb2, rfl, rfl, rfl, hSc, hSd, hF3⟩
        have hz3 := hF3.size
        have c0 := hF3.keep (unhide HC0) (by simp)
        have hA := (unhide HA).fr hF3 (by simp)
        have hB := (unhide HB).fr hF3 (by simp)
        have hSa := (unhide HSa).fr hF3 (by simp)
        have hSb := (unhide HSb).fr hF3 (by simp)
        have HF := hide ((unhide HF).trans hF3)
        have hlo := opsOf_len d (T.pre i)
        have hld := depOf_len d (T.pre i)
        have hl1 := opsOf_len (d + 1) t
        have hl2 := opsOf_len (d + 1) e
        have hl3 := depOf_len (d + 1) t
        have hl4 := depOf_len (d + 1) e
        have mN : ∀ b, b < w3.heap.size → w1.heap.size ≤ b → (fun b => w1.heap.size ≤ b) b := fun b _ h => h
        obtain ⟨q1, r1, wa, q2, r2, wb, q3, r3, wc, R1, R2, R3, hO, hFr, hK⟩ := oi_app3 (N := w1.heap.size) op hA (by omega) (fun g hg => by have := (unhide HAl g hg).2; omega) hSa (hSc.mono (fun b _ h => by omega)) (by omega)
        have hne := unhide HN
        have x6 : ∀ j ∈ (Value.slice p6 (opsOf d (T.pre i)).length s6).ownBlock.toList, ¬ (fun b => w1.heap.size ≤ b) j := fun j hj hp => by
          have := (unhide HAl j (by simpa using hj)).2
          omega
        have hB := hB.fr hFr (fun g hg hm => hne g (by simpa using hm) hg)
        have hSb := hSb.fr hFr x6
        have hSd := (hSd.mono (P' := fun b => w1.heap.size ≤ b) (fun b _ h => by omega)).fr hFr x6
        have hzc := hFr.size
        obtain ⟨q4, r4, wd, q5, r5, we, q6, r6, wf, R4, R5, R6, hO2, hFr2, hK2⟩ := oi_app3 (N := w1.heap.size) (d : Int) hB (by omega) (fun g hg => by have := (unhide HBl g hg).2; omega) hSb hSd (by omega)
        have hOl := fun g hg => World.ownsRow.lt hO g hg
        have hO := hO.fr hFr2 (fun g hg hm => by
          have hm : (Value.slice p7 (depOf d (T.pre i)).length s7).ownBlock = some g := by simpa using hm
          rcases hK g hg with q | q
          · exact hne g q hm
          · have := (unhide HBl g hm).2
            omega)
        have hsep : ∀ g, (Value.slice q3 ((opsOf d (T.pre i)).length + 1 + (opsOf (d + 1) t).length + (opsOf (d + 1) e).length) r3).ownBlock = some g → (Value.slice q6 ((depOf d (T.pre i)).length + 1 + (depOf (d + 1) t).length + (depOf (d + 1) e).length) r6).ownBlock ≠ some g := fun g hg hh => by
          have h1 := (hOl g hg).2
          rcases hK2 g hh with q | q
          · rcases hK g hg with q' | q'
            · exact hne g q' q
            · have := (unhide HBl g q).2
              omega
          · omega
        have hA6 := fun g hg => unhide HAl g hg
        have hB7 := fun g hg => unhide HBl g hg
        have HFin : Hid (Oi wf W.heap.size (.slice q3 ((opsOf d (T.pre i)).length + 1 + (opsOf (d + 1) t).length + (opsOf (d + 1) e).length) r3) (opsOf d (T.pre (i + 1))) ∧ Oi wf W.heap.size (.slice q6 ((depOf d (T.pre i)).length + 1 + (depOf (d + 1) t).length + (depOf (d + 1) e).length) r6) (depOf d (T.pre (i + 1))) ∧ Fr [] W wf) := hide ⟨by rw [opsOf_succ (unhide HAt)]; exact hO, by rw [depOf_succ (unhide HAt)]; exact hO2, ((unhide HF).thenL (l := []) hFr (fun j hj => .inr (hA6 j (by simpa using hj)).1)).thenL (l := []) hFr2 (fun j hj => .inr (hB7 j (by simpa using hj)).1)⟩
        have HSep := hide hsep
        have HR1 := hide R1
        have HR2 := hide R2
        have HR3 := hide R3
        have HR4 := hide R4
        have HR5 := hide R5
        have HR6 := hide R6
        rw [hl1] at HR2 HR3
        rw [hl2] at HR3
        rw [hl3] at HR5 HR6
        rw [hl4] at HR6
        rw [hl1, hl2, hl3, hl4] at HFin HSep
        clear hlo hld hl1 hl2 hl3 hl4
        clear hO hO2 hOl hA hB hSa hSb hSc hSd hFr hFr2 hK hK2 R1 R2 R3 R4 R5 R6 hF3 x6 hne hsep hA6 hB7 mN
        go_wp2_with (at_builtin; first | refine wpList_appT (t := 42) (w := w3.alloc (.cells #[.int .i64 op] 3)) (by rfl) rfl rfl (unhide HR1) ?_ | refine wpList_appT (t := 42) (w := wa) (by rfl) rfl rfl (unhide HR2) ?_ | refine wpList_appT (t := 42) (w := wb) (by rfl) rfl rfl (unhide HR3) ?_ | refine wpList_appT (t := 42) (w := wc.alloc (.cells #[.int .i64 (d : Int)] 3)) (by rfl) rfl rfl (unhide HR4) ?_ | refine wpList_appT (t := 42) (w := wd) (by rfl) rfl rfl (unhide HR5) ?_ | refine wpList_appT (t := 42) (w := we) (by rfl) rfl rfl (unhide HR6) ?_)
        exact ⟨⟨i + 1, by omega, by go_num, (unhide HFin).1, (unhide HFin).2.1, unhide HSep, (unhide HFin).2.2⟩, by simp [intOf]; omega⟩
    · obtain rfl : i = T.len := by omega
      rw [T.pre_all] at hA hB
      obtain ⟨p6, s6, rfl⟩ := hA.slice
      obtain ⟨p7, s7, rfl⟩ := hB.slice
      have HA := hide hA.slc
      have HB := hide hB.slc
      have HF := hide hF
      clear hA hB hF hne
      go_wp2_with fail
      go_ret2
      exact ⟨_, _, _, _, _, _, rfl, opsOf_len _ _, depOf_len _ _, unhide HA, unhide HB, unhide HF⟩
theorem told_any : ∀ n, PTold n
  | 0 => fun _ _ _ _ _ h _ _ => absurd h (Nat.not_lt_zero _)
  | n + 1 => fun _ _ _ _ _ h hz hh => told_step (hide (told_any n)) h hz hh
end Go.Proofs.YtalahdkgigcpfaaDoor
namespace Go.Proofs.YtalahdkgigcpfaaDoor
open Go.RowKit

theorem aw_sq : sq false 0 false [65, 7, 26, 11] = ((.cons ⟨65, 0, 0, 0, 7, [], false⟩ .nil .nil (.cons ⟨26, 0, 0, 0, 0, [], false⟩ .nil .nil .nil), false), 4, 0) := by rfl
theorem byt_dec (l : List Int) (h : l.all (fun x => decide (0 ≤ x) && decide (x < 256)) = true) : Byt l := by
  intro x hx
  have := List.all_eq_true.1 h x hx
  simpa using this
theorem Mk.three {W : World} (h : Mk W) : 3 ≤ W.heap.size := by
  have := World.block_lt_of_cell? W _ (h.stopped 0 _ (sL_at 0 (by decide)))
  exact this
set_option maxHeartbeats 2000000 in
set_option maxRecDepth 100000 in
theorem awake_any {W : World} (hm : Mk W) : Calls Tryd.prog 7 #[] W fun r W' => r = .returned (.bool true) ∧ Below W.heap.size W W' := by
  have HM := hide hm
  have HN1 := hide (new_any (sl_lit W [65, 7, 26, 11] 4 rfl (by omega)) (by omega) (byt_dec _ rfl))
  clear hm
  go_enter Tryd.func7, Tryd.ntmps7
  go_wp2_with fail
  refine (unhide HN1).mono ?_
  rintro _ w1 ⟨c, y1, y3, rfl, hC, hc, hF⟩
  have hz : W.heap.size + 1 ≤ w1.heap.size := by have := hF.size; simpa using this
  have hF := (Fr.of (below1 W (.cells (bys [65, 7, 26, 11]).toArray 5)) []).trans hF
  have hc' : W.heap.size ≤ c := by simp at hc; omega
  have h3 := (unhide HM).three
  have HM1 := (unhide HM).fr hF (by simp)
  have HG := hide (expr_any (sat := false) hC HM1 (by omega))
  have HF := hide hF
  clear hC hF hc HN1 HM1
  go_wp2_with fail
  refine (unhide HG).mono ?_
  rintro _ w2 ⟨p, q, s, T, t, k', e', rfl, hD, hV, -, hC, hM, hF⟩
  obtain ⟨l1, l2⟩ := hD.live rfl
  have l3 := hD.val rfl
  rw [show [65, 7, 26, 11].drop 0 = [(65 : Int), 7, 26, 11] from rfl, aw_sq] at l1 l2 l3
  dsimp only at l1 l2 l3
  subst l2
  have l3 := l3 rfl
  obtain ⟨rfl, rfl⟩ : T = _ ∧ t = _ := Prod.mk.inj l3
  subst l1
  have hV := hV rfl
  obtain ⟨a2, cap2, hv, hcap, ho⟩ := hV.open2
  rw [show Fo.len (.cons ⟨65, 0, 0, 0, 7, [], false⟩ .nil .nil (.cons ⟨26, 0, 0, 0, 0, [], false⟩ .nil .nil .nil)) = 2 from rfl] at hv hcap ho
  injection hv with hv1 hv2 hv3
  subst hv1; subst hv2; subst hv3
  rcases ho with ho | ⟨b, off, rfl, -, hel⟩
  · omega
  obtain ⟨x1, x2, x3, x4, x5, x6, ⟨g0, -, -, -, g4, -⟩, -⟩ := hel 0 _ _ _ rfl
  obtain ⟨z1, z2, z3, z4, z5, z6, ⟨k0, -⟩, -⟩ := hel 1 _ _ _ rfl
  dsimp only at g0 g4 k0
  simp only [Nat.zero_mul, Nat.one_mul, Nat.add_zero] at g0 g4 k0
  have HL := hide (left2_any hC)
  have HF := hide ((unhide HF).thenL (l := []) hF (by simp; omega))
  have HV := hide hV
  clear hF hC hM hV hD hel l3 HG
  go_wp2_with fail
  refine (unhide HL).mono ?_
  rintro _ w3 ⟨rfl, hF⟩
  have hV := (unhide HV).fr hF (by simp)
  have HZ := hide (size_any (T := .cons ⟨65, 0, 0, 0, 7, [], false⟩ .nil .nil (.cons ⟨26, 0, 0, 0, 0, [], false⟩ .nil .nil .nil)) ⟨by decide, trivial, trivial, by decide, trivial, trivial, trivial⟩ hV (by decide))
  rw [show Fo.size (.cons ⟨65, 0, 0, 0, 7, [], false⟩ .nil .nil (.cons ⟨26, 0, 0, 0, 0, [], false⟩ .nil .nil .nil)) = 2 from rfl] at HZ
  have HF := hide ((unhide HF).trans hF)
  clear hF hV HV HL g0 g4 k0
  go_wp2_with fail
  refine (unhide HZ).mono ?_
  rintro _ w4 ⟨rfl, hb⟩
  have HF := hide ((unhide HF).bel hb)
  clear hb HZ
  go_wp2_with fail
  go_ret
  exact ⟨rfl, (unhide HF).nil⟩
end Go.Proofs.YtalahdkgigcpfaaDoor
namespace Go.Proofs.YtalahdkgigcpfaaDoor
open Go.RowKit

/-- The contract of the document's Size for what is smaller than n. -/
def PRs (n : Nat) : Prop := ∀ (T : Fo) (P : Nat → Prop) (v : Value) (W : World), T.size < n → T.size ≤ 4000000 → Fov W P T v →
  Calls Tryd.prog 17 #[v] W fun r W' => r = .returned (.int .i64 (T.size : Int)) ∧ Fr [] W W'
set_option maxHeartbeats 8000000 in
set_option maxRecDepth 100000 in
theorem rsize_step {n : Nat} {T : Fo} {P : Nat → Prop} {v : Value} {W : World} (HI : Hid (PRs n)) (hs : T.size < n + 1) (hz : T.size ≤ 4000000) (h : Fov W P T v) :
  Calls Tryd.prog 17 #[v] W fun r W' => r = .returned (.int .i64 (T.size : Int)) ∧ Fr [] W W' := by
  obtain ⟨a, cap, rfl, hc, ho⟩ := h.open2
  have HO := hide ho
  have hl := T.len_le
  clear h ho
  go_enter Tryd.func17, Tryd.ntmps17
  go_wp2_with fail
  go_loopw [3, 4] (fun v3 v4 wr => ∃ (i : Nat), i ≤ T.len ∧ v4 = .int .i64 (i : Int) ∧ v3 = .int .i64 ((T.pre i).size : Int) ∧ Fr [] W wr) (fun _ v4 _ => T.len - (intOf v4).toNat)
  case atStart => exact ⟨0, by omega, rfl, rfl, Fr.refl _ _⟩
  case round =>
    obtain ⟨i, hi, rfl, rfl, hF⟩ := hrel
    have hps := T.pre_size i
    by_cases hlt : i < T.len
    · obtain ⟨⟨⟨op, ty, aa, bb, bits, li, has⟩, t, e⟩, hat⟩ := Fo.at_some hlt
      rcases unhide HO with h0 | ⟨b, off, rfl, hp, hel⟩
      · omega
      · obtain ⟨l1, l3, t1, t3, e1, e3, hE, hL, ht, he⟩ := hel i _ t e hat
        have hsz := Fo.at_size hat
        have hps1 := T.pre_size (i + 1)
        have hsc : (T.pre (i + 1)).size = (T.pre i).size + (1 + t.size + e.size) := by
          rw [Fo.pre_succ hat, Fo.size_app]
          show _ + (1 + t.size + e.size + 0) = _
          omega
        have hi' : (i : Int) < (T.len : Int) := by omega
        have hi2 : (0 : Int) ≤ (i : Int) := by omega
        have hE := hE.fr hF (by simp)
        have hdr : Fr [] wr wr.drew := (Fr.refl _ _).drew
        have HT := hide ((ht.fr hF (by simp)).fr hdr (by simp))
        have HEl := hide ((he.fr hF (by simp)).fr hdr (by simp))
        have HB := hide (show wr.drew.cell? ⟨b, off + i * 9 + 6, none⟩ = some (.slice t1 t.len t3) ∧ wr.drew.cell? ⟨b, off + i * 9 + 7, none⟩ = some (.slice e1 e.len e3) from ⟨hdr.keep hE.2.2.2.2.2.2.1 (by simp), hdr.keep hE.2.2.2.2.2.2.2.1 (by simp)⟩)
        have HF := hide (hF.trans hdr)
        clear hE hL ht he hF hat hel hdr
        go_wp2_with fail
        refine wp_region_held_drew (S := fun w' => w'.cell? ⟨b, off + i * 9 + 6, none⟩ = some (.slice t1 t.len t3) ∧ w'.cell? ⟨b, off + i * 9 + 7, none⟩ = some (.slice e1 e.len e3)) (by kernel_rfl) ?_ (fun hHeld => ?_)
        · (try dsimp only)
          exact unhide HB
        refine lst0 17 (by kernel_rfl) ?_
        refine tkA 0 11 1 ?_
        refine tkA 1 12 3 ?_
        refine tkA 2 13 7 ?_
        refine tkA 3 14 15 ?_
        refine tkA 4 15 31 ?_
        refine tkA 5 16 63 ?_
        refine tkA 8 19 319 ?_
        refine tkA 9 20 831 ?_
        refine tkA 10 21 1855 ?_
        refine tkA 11 22 3903 ?_
        refine tkA 12 23 7999 ?_
        refine rdA 6 8063 (fun Kk hKk => ?_)
        go_simp
        refine (unhide HI t _ _ _ (by omega) (by omega) (unhide HT)).mono ?_
        rintro _ w3 ⟨rfl, hF3⟩
        have HB := hide (show w3.cell? ⟨b, off + i * 9 + 6, none⟩ = some (.slice t1 t.len t3) ∧ w3.cell? ⟨b, off + i * 9 + 7, none⟩ = some (.slice e1 e.len e3) from ⟨hF3.keep (unhide HB).1 (by simp), hF3.keep (unhide HB).2 (by simp)⟩)
        have HT := hide ((unhide HT).fr hF3 (by simp))
        have HEl := hide ((unhide HEl).fr hF3 (by simp))
        have HF := hide ((unhide HF).trans hF3)
        have i1 : IntKind.i64.wrap (1 + (t.size : Int)) = 1 + (t.size : Int) := i64_id (by omega) (by omega)
        clear hF3
        (try go_wp2_with fail)
        refine hKk.out _ _ ?_ (fun hHeld => ?_)
        · (try dsimp only)
          exact unhide HB
        clear hKk Kk
        (try simp only [List.setIfInBounds_toArray, List.set_cons_zero, List.set_cons_succ])
        refine tkA 7 18 8191 ?_
        refine rdA 13 16383 (fun Kk hKk => ?_)
        go_simp
        refine (unhide HI e _ _ _ (by omega) (by omega) (unhide HEl)).mono ?_
        rintro _ w4 ⟨rfl, hF3⟩
        have HB := hide (show w4.cell? ⟨b, off + i * 9 + 6, none⟩ = some (.slice t1 t.len t3) ∧ w4.cell? ⟨b, off + i * 9 + 7, none⟩ = some (.slice e1 e.len e3) from ⟨hF3.keep (unhide HB).1 (by simp), hF3.keep (unhide HB).2 (by simp)⟩)
        have HT := hide ((unhide HT).fr hF3 (by simp))
        have HEl := hide ((unhide HEl).fr hF3 (by simp))
        have HF := hide ((unhide HF).trans hF3)
        have i2 : IntKind.i64.wrap (1 + (t.size : Int) + (e.size : Int)) = 1 + (t.size : Int) + (e.size : Int) := i64_id (by omega) (by omega)
        have i3 : IntKind.i64.wrap (((T.pre i).size : Int) + (1 + (t.size : Int) + (e.size : Int))) = ((T.pre i).size : Int) + (1 + (t.size : Int) + (e.size : Int)) := i64_id (by omega) (by omega)
        clear hF3
        (try go_wp2_with fail)
        refine hKk.out _ _ ?_ (fun hHeld => ?_)
        · (try dsimp only)
          exact unhide HB
        clear hKk Kk
        (try simp only [List.setIfInBounds_toArray, List.set_cons_zero, List.set_cons_succ])
        refine tkA 14 25 32767 ?_
        refine tkA 15 26 65535 ?_
        refine tkA 16 3 131071 ?_
        refine wpAnyH_done (by kernel_rfl) ?_ _
        go_wp2_with fail
        refine ⟨⟨i + 1, by omega, by go_num, ?_, unhide HF⟩, by simp [intOf]; omega⟩
        rw [hsc]
        first | rfl | (congr 1; omega) | go_num
    · obtain rfl : i = T.len := by omega
      rw [T.pre_all] at *
      have HF := hide hF
      clear hF
      go_wp2_with fail
      go_ret
      exact ⟨rfl, unhide HF⟩
theorem rsize_any : ∀ n, PRs n
  | 0 => fun _ _ _ _ h _ _ => absurd h (Nat.not_lt_zero _)
  | n + 1 => fun _ _ _ _ h hz hh => rsize_step (hide (rsize_any n)) h hz hh
end Go.Proofs.YtalahdkgigcpfaaDoor
namespace Go.Proofs.YtalahdkgigcpfaaDoor
open Go.RowKit
attribute [local go_sem] Oper.semAt_some

set_option maxHeartbeats 8000000 in
set_option maxRecDepth 100000 in
theorem counts_any {T : Fo} {P : Nat → Prop} {v : Value} {W : World} (hM : Mk W) (hF0 : Fov W P T v) (hw : Lw T) (hlk : Lok T) (hz : T.size ≤ 2000000) (hRd : ∀ (P : Nat → Prop) (v : Value) (W : World), Fov W P T v → Calls Tryd.prog 19 #[v] W fun r W' => r = .returned (.int .i64 (T.dep : Int)) ∧ Fr [] W W') : Calls Tryd.prog 4 #[v] W fun r W' => r = .returned (.bool true) ∧ Below W.heap.size W W' := by
  obtain ⟨a, cap, rfl⟩ := hF0.slc
  have HM := hide hM
  have HF := hide (hF0.mono (P' := fun b => b < W.heap.size) (fun b h1 _ => h1))
  clear hM hF0
  refine (callsIn_wide (n := 9)).1 ?_
  refine callsIn_of_wp_marks Tryd.func4 rfl trivial ?_ rfl
  simp only [Tryd.ntmps4, List.size_toArray, List.length_cons, List.length_nil, Nat.reduceAdd, Nat.reduceSub, Array.replicate_succ, Array.replicate_zero, List.push_toArray, List.append_toArray, List.nil_append, List.cons_append]
  gi_wp2
  refine ⟨trivial, callsIn_wide.2 ((awake_any (unhide HM)).mono ?_)⟩
  rintro _ w1 ⟨rfl, hb⟩
  have HR := hide (Fr.of hb [])
  have HF := hide ((unhide HF).fr (Fr.of hb []) (by simp))
  clear hb
  gi_wp2
  refine ⟨trivial, callsIn_wide.2 ((few_any (unhide HF) (by omega)).mono ?_)⟩
  rintro _ w2 ⟨t, rfl, hf⟩
  have HR := hide ((unhide HR).trans hf)
  have HF := hide ((unhide HF).fr hf (by simp))
  clear hf
  cases t with
  | false =>
    gi_wp2
    exact ⟨_, results_tmp rfl _ _ _, rfl, (unhide HR).nil⟩
  | true =>
    gi_wp2
    refine ⟨trivial, callsIn_wide.2 ((plain_any (T.size + 1) T _ _ _ (Nat.lt_succ_self _) hz (unhide HF)).mono ?_)⟩
    rintro _ w3 ⟨pp, ps, rfl, hV, hf⟩
    have HR := hide ((unhide HR).trans hf)
    have HF := hide ((unhide HF).fr hf (by simp))
    have HV := hide (hV.mono (P' := fun b => b < w3.heap.size) (fun b h1 _ => h1))
    clear hf hV
    have HZ := hide (Nat.le_refl w3.heap.size)
    gi_wp2
    refine ⟨trivial, callsIn_wide.2 ((size_any hw (unhide HF) (by omega)).mono ?_)⟩
    rintro _ w4 ⟨rfl, hb⟩
    have HZ := hide (Nat.le_trans (unhide HZ) hb.size)
    have HR := hide ((unhide HR).bel hb)
    have HF := hide ((unhide HF).fr (Fr.of hb []) (by simp))
    have HV := hide ((unhide HV).fr (Fr.of hb []) (by simp))
    clear hb
    gi_wp2
    refine ⟨trivial, callsIn_wide.2 ((rsize_any (T.size + 1) T _ _ _ (Nat.lt_succ_self _) (by omega) (unhide HV)).mono ?_)⟩
    rintro _ w5 ⟨rfl, hf⟩
    have HZ := hide (Nat.le_trans (unhide HZ) hf.size)
    have HR := hide ((unhide HR).trans hf)
    have HF := hide ((unhide HF).fr hf (by simp))
    have HV := hide ((unhide HV).fr hf (by simp))
    clear hf
    have HM5 := hide ((unhide HM).fr (unhide HR) (by simp))
    gi_wp2
    refine ⟨trivial, callsIn_wide.2 ((depth_any hw (unhide HF) (by omega) (unhide HM5)).mono ?_)⟩
    rintro _ w6 ⟨rfl, hb⟩
    have HZ := hide (Nat.le_trans (unhide HZ) hb.size)
    have HR := hide ((unhide HR).bel hb)
    have HF := hide ((unhide HF).fr (Fr.of hb []) (by simp))
    have HV := hide ((unhide HV).fr (Fr.of hb []) (by simp))
    clear hb
    gi_wp2
    refine ⟨trivial, callsIn_wide.2 ((hRd _ _ _ (unhide HV)).mono ?_)⟩
    rintro _ w7 ⟨rfl, hf⟩
    have HZ := hide (Nat.le_trans (unhide HZ) hf.size)
    have HR := hide ((unhide HR).trans hf)
    have HF := hide ((unhide HF).fr hf (by simp))
    have HV := hide ((unhide HV).fr hf (by simp))
    clear hf
    gi_wp2
    have hb2 := below2 w7 (.cells #[.slice none 0 0] 42) (.cells #[.slice none 0 0] 42)
    have HF := hide ((unhide HF).fr (Fr.of hb2 []) (by simp))
    have HV := hide ((unhide HV).fr (Fr.of hb2 []) (by simp))
    have HR7 := hide ((unhide HR).size)
    have hV7 : w3.heap.size ≤ w7.heap.size := unhide HZ
    have HR := hide ((unhide HR).bel hb2)
    have c4 : ((w7.alloc (.cells #[.slice none 0 0] 42)).alloc (.cells #[.slice none 0 0] 42)).cell? ⟨w7.heap.size, 0, none⟩ = some (.slice none 0 0) := by simp [go_sem]
    have f4 : ((w7.alloc (.cells #[.slice none 0 0] 42)).alloc (.cells #[.slice none 0 0] 42)).frozen? ⟨w7.heap.size, 0, none⟩ = false := by simp [go_sem]
    have c5 : ((w7.alloc (.cells #[.slice none 0 0] 42)).alloc (.cells #[.slice none 0 0] 42)).cell? ⟨w7.heap.size + 1, 0, none⟩ = some (.slice none 0 0) := by simp [go_sem]
    have f5 : ((w7.alloc (.cells #[.slice none 0 0] 42)).alloc (.cells #[.slice none 0 0] 42)).frozen? ⟨w7.heap.size + 1, 0, none⟩ = false := by simp [go_sem]
    have hz7 : ((w7.alloc (.cells #[.slice none 0 0] 42)).alloc (.cells #[.slice none 0 0] 42)).heap.size = w7.heap.size + 2 := by simp
    have HC := hide (And.intro c4 (And.intro f4 (And.intro c5 (And.intro f5 hz7))))
    clear hb2 c4 f4 c5 f5 hz7
    refine ⟨trivial, callsIn_wide.2 ((each_any (by omega) hlk (unhide HF)).mono ?_)⟩
    generalize (w7.alloc (.cells #[.slice none 0 0] 42)).alloc (.cells #[.slice none 0 0] 42) = u7 at *
    rintro _ w8 ⟨g, p, s, rfl, hcg, hEV, hg1, hg2, hf⟩
    have HLp : Hid (Lp W w7.heap.size w8.heap.size T (.slice pp T.len ps) (.slice none 0 0) (.slice none 0 0) [] [] w8) := hide (by
      obtain ⟨c4, f4, c5, f5, hz7⟩ := unhide HC
      have hs := hf.size
      exact ⟨hf.keep c4 (by simp), (hf.frozen (p := ⟨w7.heap.size, 0, none⟩) (by show w7.heap.size < _; omega) (by simp)).trans f4, hf.keep c5 (by simp), (hf.frozen (p := ⟨w7.heap.size + 1, 0, none⟩) (by show w7.heap.size + 1 < _; omega) (by simp)).trans f5,
        oi_nil _ _, oi_nil _ _, (fun g h => by cases h), ((unhide HR).trans hf).nil, ((unhide HV).mono (fun b _ h => by omega)).fr hf (by simp), Nat.le_refl _⟩)
    have hM8 : w7.heap.size + 2 ≤ w8.heap.size := by have := hf.size; have := (unhide HC).2.2.2.2; omega
    have hW7 := unhide HR7
    have hEV := hEV.mono (P' := fun b => (w7.heap.size + 2 ≤ b ∧ b < w8.heap.size)) (fun b h1 h2 => ⟨by have := (unhide HC).2.2.2.2; omega, h1⟩)
    gi_wp2
    refine range_t rfl (by omega) (gf := 32) (lb := #[.pointer (some ⟨g, 0, none⟩)]) rfl trivial (enters_of Tryd.func32 (by kernel_rfl) rfl) (encs := enO) (S := fun ys => ys.map bopO = tellP 0 T) (N := T.size) (fun _ => rfl)
      (fun V V' => Kr [w7.heap.size, w7.heap.size + 1] V V' ∧ KeepsFrom (w8.heap.size + 2) V V') (Th [w7.heap.size, w7.heap.size + 1] (w8.heap.size + 2))
      (fun ys V => ∃ v4 v5, Lp W w7.heap.size w8.heap.size T (.slice pp T.len ps) v4 v5 (ys.map fun x => x.1.op) (ys.map fun x => (x.1.b : Int)) V) ?seq ?hTn ?hKb ?hI ?hIT ?h0
      (fun V0 x a' V => ∃ Bx, (V0.heap.size ≤ Bx ∧ ¬ Rwb [w7.heap.size, w7.heap.size + 1] V Bx) ∧ Kr [w7.heap.size, w7.heap.size + 1] V0 V ∧ KeepsFrom (w8.heap.size + 2) V0 V ∧ V.cell? ⟨Bx, 0, none⟩ = some (.int .i64 x.1.op) ∧ a' = { tmps := #[.slice a T.len cap, undef, .bool false, .slice pp T.len ps, .pointer (some ⟨w7.heap.size, 0, none⟩), .pointer (some ⟨w7.heap.size + 1, 0, none⟩), .int .i64 (x.1.b : Int), .pointer (some ⟨Bx, 0, none⟩), undef, undef, .bool true, .bool false, .slice a T.len cap, .bool true, .bool false, .slice a T.len cap, .slice pp T.len ps, .slice a T.len cap, .int .i64 (T.size : Int), .slice pp T.len ps, .int .i64 (T.size : Int), .bool false, .bool false, .slice a T.len cap, .int .i64 (T.dep : Int), .slice pp T.len ps, .int .i64 (T.dep : Int), .bool false, .bool false, .slice a T.len cap, .func (.func 32) #[] #[.pointer (some ⟨g, 0, none⟩)], .int .i64 (x.1.b : Int), x.1.agg, undef, undef, undef, undef, undef, undef, undef, undef, undef, undef, undef, undef, undef, undef, undef, undef, undef, undef, undef, undef, undef, undef], defers := [] }) ?hAx ?assign ?body ?done
    case seq =>
      intro l J W1 hl hsz hb hJ hJI hY h0
      refine (each1_in (bx := [w7.heap.size, w7.heap.size + 1]) (P := fun b => w7.heap.size + 2 ≤ b ∧ b < w8.heap.size) l (9 - 1) g T _ W1 hw hlk (by omega) (hEV.fr (Fr.of hb []) (by simp)) (fun b h => by omega) (keep1 hb hg2 hcg) J (fun i hi => by simp at hi; omega) (by rw [hsz]; exact hJ) (fun s V hs b hb => ?_) (fun m pre x V hj hl => ?_) h0).mono ?_
      · obtain ⟨v4, v5, h⟩ := hJI _ _ hs
        have := h.lt hM8 hb
        exact ⟨this.1, by omega⟩
      · obtain ⟨fn, tmps, assign, body, hy, hR⟩ := hY pre x V hj hl
        exact ⟨fn, tmps, assign, body, hy, ⟨hR.1, fun c cs _ => by rw [hsz]; exact hR.2 c cs (fun d h => by cases h)⟩⟩
      · rintro e W' ⟨h1, ys, h2, h3⟩
        exact ⟨h1, ys, h2, h3⟩
    case hTn =>
      rintro _ V V' - ht k o hk ho _
      have := ht.bel.block k (by omega)
      rw [this]; exact ho
    case hKb =>
      rintro A B r r' ⟨hk, hkf⟩ hB
      have hlt := (Array.getElem?_eq_some_iff.1 hB).1
      exact ⟨hk.put (fun i hi => by simp at hi; omega) hB rfl _, hkf.trans ⟨by simp, fun k o hk ho _ => (World.putObj_heap_other (by omega)).trans ho⟩⟩
    case hI =>
      rintro ys A B row ⟨v4, v5, h⟩ hg hr
      exact ⟨v4, v5, h.grown (by omega) hg hr⟩
    case hIT =>
      rintro ys V V' ⟨v4, v5, h⟩ ht
      exact ⟨v4, v5, h.th hM8 (by omega) ht⟩
    case h0 => exact ⟨_, _, unhide HLp⟩
    case hAx =>
      rintro V0 x a' V r r' ⟨Bx, ⟨h1, h2⟩, h3, h4, h5, h6⟩ hrec
      have hlt := (Array.getElem?_eq_some_iff.1 hrec).1
      refine ⟨Bx, ⟨h1, fun q => h2 (q.of fun i hi => ?_)⟩, h3.put (fun i hi => by simp at hi; omega) hrec rfl _, h4.trans ⟨by simp, fun k o hk ho _ => (World.putObj_heap_other (by omega)).trans ho⟩, cell_kept h5 (grownBy_putObj' _ _ _) (fun r e => by cases e; exact ⟨_, hrec, rfl⟩), h6⟩
      simp at hi
      exact ⟨by omega, World.putObj_heap_other (by omega)⟩
    case assign =>
      rintro l pre ⟨⟨b, op, ty, aa, bb, bits, li, has, t, e, l1, l3, t1, t3, e1, e3⟩, hgb, hgo⟩ V K hl ⟨v4, v5, h⟩ hK
      dsimp only [enO, It.agg] at hK ⊢
      have hba := below1 V (.cells #[.int .i64 op, .int .u8 ty, .int .u32 aa, .int .u32 bb, .int .u64 bits, .slice l1 li.length l3, .slice t1 t.len t3, .slice e1 e.len e3, .bool has] 50)
      have hs := h.size
      have HQ := hide (h.grown (by omega) (World.grownBy_alloc V (.cells #[.int .i64 op, .int .u8 ty, .int .u32 aa, .int .u32 bb, .int .u64 bits, .slice l1 li.length l3, .slice t1 t.len t3, .slice e1 e.len e3, .bool has] 50) none) (fun r e => by cases e))
      have HB : Hid (¬ Rwb [w7.heap.size, w7.heap.size + 1] (V.alloc (.cells #[.int .i64 op, .int .u8 ty, .int .u32 aa, .int .u32 bb, .int .u64 bits, .slice l1 li.length l3, .slice t1 t.len t3, .slice e1 e.len e3, .bool has] 50)) V.heap.size) := hide fun q => by
        have := (h.lt hM8 (q.of fun i hi => by simp at hi; exact ⟨by omega, hba.block i (by omega)⟩)).1
        omega
      have HR2 := hide (Kr.of (bx := [w7.heap.size, w7.heap.size + 1]) (fun i hi => by simp at hi; omega) hba)
      have HK := hide hK
      clear hK hba h
      gi_wp2
      refine unhide HK _ _ ((KeepsOthers.alloc _ _).from _) ⟨v4, v5, unhide HQ⟩ ⟨V.heap.size, ⟨Nat.le_refl _, unhide HB⟩, unhide HR2, (KeepsOthers.alloc _ _).from _, ?_, rfl⟩
      simp [go_sem]
    case body =>
      rintro l pre ⟨⟨b, op, ty, aa, bb, bits, li, has, t, e, l1, l3, t1, t3, e1, e3⟩, hgb, hgo⟩ V0 a' V hl ⟨v4, v5, h⟩ ⟨Bx, ⟨h1, h2⟩, h3, h4, h5, rfl⟩ hlen
      dsimp only at h5 ⊢
      have hn4 : (pre.map fun x => x.1.op).length = pre.length := List.length_map _
      have hn5 : (pre.map fun x => (x.1.b : Int)).length = pre.length := List.length_map _
      have HE4 : Hid ((pre ++ [(⟨⟨b, op, ty, aa, bb, bits, li, has, t, e, l1, l3, t1, t3, e1, e3⟩, hgb, hgo⟩ : Ot)]).map (fun x => x.1.op) = (pre.map fun x => x.1.op) ++ [op]) := hide (by rw [List.map_append]; rfl)
      have HE5 : Hid ((pre ++ [(⟨⟨b, op, ty, aa, bb, bits, li, has, t, e, l1, l3, t1, t3, e1, e3⟩, hgb, hgo⟩ : Ot)]).map (fun x => (x.1.b : Int)) = (pre.map fun x => (x.1.b : Int)) ++ [(b : Int)]) := hide (by rw [List.map_append]; rfl)
      generalize (pre.map fun x => x.1.op) = xs at h hn4 HE4
      generalize (pre.map fun x => (x.1.b : Int)) = ds at h hn5 HE5
      obtain ⟨p4, s4, rfl⟩ := h.o4.slice
      obtain ⟨p5, s5, rfl⟩ := h.o5.slice
      have hx : xs.length ≤ 4000000 := by omega
      have hd : ds.length ≤ 4000000 := by omega
      clear hn4 hn5
      have hbd : Below V.heap.size V V.drew := (Below.refl _ _).drew
      refine wpIn_block (region_J (k := 11) (Sj w7.heap.size Bx (.slice p4 xs.length s4) (.slice p5 ds.length s5) op)
        (Q0 := fun e _ V' => e = .normal ∧ KeepsFrom w8.heap.size V.drew V' ∧ Kr [w7.heap.size, w7.heap.size + 1] V.drew V' ∧ ∃ v4 v5, Lp W w7.heap.size w8.heap.size T (.slice pp T.len ps) v4 v5 (xs ++ [op]) (ds ++ [(b : Int)]) V') (by kernel_rfl) (by kernel_rfl) (fun a w h => by cases h.1) ?_ (by kernel_rfl) ?_)
      · rintro e a V' ⟨rfl, q1, q2, v4', v5', q3⟩
        have hs := h.size
        have k1 : KeepsFrom w8.heap.size V V.drew := keepsFrom_frL (Fr.of hbd []) (by simp)
        exact ⟨k1.trans q1, ⟨(h3.trans (Kr.of (fun i hi => by simp at hi; omega) hbd)).trans q2, h4.trans (keepsFrom_up (k1.trans q1) (by omega))⟩, v4', v5', by rw [unhide HE4, unhide HE5]; exact q3⟩
      · have hdr := h.drew
        have hC : V.drew.cell? ⟨w7.heap.size, 0, none⟩ = some (.slice p4 xs.length s4) ∧ V.drew.cell? ⟨Bx, 0, none⟩ = some (.int .i64 op) ∧ V.drew.cell? ⟨w7.heap.size + 1, 0, none⟩ = some (.slice p5 ds.length s5) := ⟨hdr.c4, h5, hdr.c5⟩
        have hnR : ¬ Rwb [w7.heap.size, w7.heap.size + 1] V.drew Bx := h2
        clear hbd h h5 h2 h3 h4 HE4 HE5
        generalize V.drew = Vd at *
        have hN := hdr.size
        have l4 := fun g hg => World.ownsRow.lt hdr.o4 g hg
        have l5 := fun g hg => World.ownsRow.lt hdr.o5 g hg
        have hin : ∀ i ∈ (Value.slice p4 xs.length s4).ownBlock.toList ++ (Value.slice p5 ds.length s5).ownBlock.toList, w8.heap.size ≤ i ∧ i ≠ Bx := fun i hi => by
          rcases List.mem_append.1 hi with q | q
          · exact ⟨(l4 i (by simpa using q)).1, fun e => by subst e; exact hnR (hdr.row4 (by simpa using q))⟩
          · exact ⟨(l5 i (by simpa using q)).1, fun e => by subst e; exact hnR (hdr.row5 (by simpa using q))⟩
        have HC2 : Hid (∀ u, Fr ((Value.slice p4 xs.length s4).ownBlock.toList ++ (Value.slice p5 ds.length s5).ownBlock.toList) Vd u → (u.cell? ⟨w7.heap.size, 0, none⟩ = some (.slice p4 xs.length s4) ∧ u.cell? ⟨Bx, 0, none⟩ = some (.int .i64 op) ∧ u.cell? ⟨w7.heap.size + 1, 0, none⟩ = some (.slice p5 ds.length s5)) ∧ u.frozen? ⟨w7.heap.size, 0, none⟩ = false ∧ u.frozen? ⟨w7.heap.size + 1, 0, none⟩ = false) := hide fun u hu =>
          ⟨⟨hu.keep hC.1 (fun hm => by have := (hin w7.heap.size hm).1; omega), hu.keep hC.2.1 (fun hm => (hin Bx hm).2 rfl), hu.keep hC.2.2 (fun hm => by have := (hin (w7.heap.size + 1) hm).1; omega)⟩,
            (hu.frozen (p := ⟨w7.heap.size, 0, none⟩) (by show w7.heap.size < _; omega) (fun hm => by have := (hin w7.heap.size hm).1; omega)).trans hdr.f4, (hu.frozen (p := ⟨w7.heap.size + 1, 0, none⟩) (by show w7.heap.size + 1 < _; omega) (fun hm => by have := (hin (w7.heap.size + 1) hm).1; omega)).trans hdr.f5⟩
        have HSt : Hid (∀ (u : World) (q4 q5 : Option Addr) (t4 t5 : Nat), Two w8.heap.size Vd u (.slice p4 xs.length s4) (.slice p5 ds.length s5) (.slice q4 (xs.length + 1) t4) (.slice q5 (ds.length + 1) t5) (xs ++ [op]) (ds ++ [(b : Int)]) →
            KeepsFrom w8.heap.size Vd ((u.setCell ⟨w7.heap.size, 0, none⟩ (.slice q4 (xs.length + 1) t4)).setCell ⟨w7.heap.size + 1, 0, none⟩ (.slice q5 (ds.length + 1) t5)) ∧ Kr [w7.heap.size, w7.heap.size + 1] Vd ((u.setCell ⟨w7.heap.size, 0, none⟩ (.slice q4 (xs.length + 1) t4)).setCell ⟨w7.heap.size + 1, 0, none⟩ (.slice q5 (ds.length + 1) t5)) ∧
            ∃ v4 v5, Lp W w7.heap.size w8.heap.size T (.slice pp T.len ps) v4 v5 (xs ++ [op]) (ds ++ [(b : Int)]) ((u.setCell ⟨w7.heap.size, 0, none⟩ (.slice q4 (xs.length + 1) t4)).setCell ⟨w7.heap.size + 1, 0, none⟩ (.slice q5 (ds.length + 1) t5))) := hide fun u q4 q5 t4 t5 h2 => by
          have e4 : (xs ++ [op]).length = xs.length + 1 := by simp
          have e5 : (ds ++ [(b : Int)]).length = ds.length + 1 := by simp
          have hst := hdr.step (u := u) (q4 := q4) (q5 := q5) (s4 := t4) (s5 := t5) (xs' := xs ++ [op]) (ds' := ds ++ [(b : Int)]) hM8 hW7 (by rw [e4, e5]; exact h2)
          rw [e4, e5] at hst
          exact ⟨hst.2.1, hst.2.2, _, _, hst.1⟩
        have HOl : Hid (∀ g, (Value.slice p4 xs.length s4).ownBlock = some g → g < Vd.heap.size) := hide fun g hg => (l4 g hg).2
        have h2 : Two w8.heap.size Vd Vd (.slice p4 xs.length s4) (.slice p5 ds.length s5) (.slice p4 xs.length s4) (.slice p5 ds.length s5) xs ds := ⟨hdr.o4, hdr.o5, hdr.sep, Fr.refl _ _, fun g h => .inl h, fun g h => .inl h⟩
        refine tkJ 5 38 32 [0, 1, 2, 3, 4, 5, 6, 7, 8, 9] Sj.five (fun _ h => h) hC.2.2 ?_
        refine tkJ 6 39 96 [0, 1, 2, 3, 4, 5, 6, 7, 8, 9] Sj.five (fun _ h => h) hC.2.2 ?_
        refine tkJ 0 33 97 [0, 1, 2, 3, 4, 7, 8] Sj.all (fun _ h => h) hC ?_
        refine tkJ 1 34 99 [0, 1, 2, 3, 4, 7, 8] Sj.all (fun _ h => h) hC ?_
        refine tkJ 2 35 103 [0, 1, 2, 3, 4, 7, 8] Sj.all (fun _ h => h) hC ?_
        clear hC hdr l4 l5 hin hnR
        refine rdJ (rs := [3, 7]) (by kernel_rfl) (by simp) (fun i hi => ?_)
        simp only [List.mem_cons, List.not_mem_nil, or_false] at hi
        rcases hi with rfl | rfl
        · refine opJ 3 111 (fun Kk hKk => ?_)
          go_simp
          have h2 := h2.new (.cells #[.int .i64 op] 3)
          refine hKk _ _ (unhide HC2 _ h2.fr).1 ?_
          clear hKk Kk
          (try simp only [List.setIfInBounds_toArray, List.set_cons_zero, List.set_cons_succ])
          refine rdJ (rs := [4, 7]) (by kernel_rfl) (by simp) (fun i hi => ?_)
          simp only [List.mem_cons, List.not_mem_nil, or_false] at hi
          rcases hi with rfl | rfl
          · obtain ⟨p6, s6, ua, hr4, h2, hk6⟩ := h2.app4 hN (b := Vd.heap.size) (x := op) (by simp [go_sem]) hx
            refine opJ 4 127 (fun Kk hKk => ?_)
            refine oper_app (by rfl) (by rfl) hr4 ?_
            refine hKk _ _ (unhide HC2 _ h2.fr).1 ?_
            clear hKk Kk hr4
            (try simp only [List.setIfInBounds_toArray, List.set_cons_zero, List.set_cons_succ])
            refine rdJ (rs := [7]) (by kernel_rfl) (by simp) (fun i hi => ?_)
            simp only [List.mem_cons, List.not_mem_nil, or_false] at hi
            subst hi
            refine opJ 7 255 (fun Kk hKk => ?_)
            go_simp
            have h2 := h2.new (.cells #[.int .i64 (b : Int)] 3)
            refine hKk _ _ (unhide HC2 _ h2.fr).1 ?_
            clear hKk Kk
            (try simp only [List.setIfInBounds_toArray, List.set_cons_zero, List.set_cons_succ])
            refine rdJ (rs := [8]) (by kernel_rfl) (by simp) (fun i hi => ?_)
            simp only [List.mem_cons, List.not_mem_nil, or_false] at hi
            subst hi
            obtain ⟨p7, s7, ub, hr8, h2⟩ := h2.app5 hN (b := ua.heap.size) (x := (b : Int)) (by simp [go_sem]) hd
            refine opJ 8 511 (fun Kk hKk => ?_)
            refine oper_app (by rfl) (by rfl) hr8 ?_
            refine hKk _ _ (unhide HC2 _ h2.fr).1 ?_
            clear hKk Kk hr8
            (try simp only [List.setIfInBounds_toArray, List.set_cons_zero, List.set_cons_succ])
            have hq := unhide HC2 _ h2.fr
            obtain ⟨⟨cM, -, cM1⟩, fM, fM1⟩ := hq
            have hst := unhide HSt _ _ _ _ _ h2
            have cM2 := cell_set_blk (o' := 0) (v := .slice p6 (xs.length + 1) s6) cM1 (show w7.heap.size + 1 ≠ w7.heap.size by omega)
            have fM2 : (ub.setCell ⟨w7.heap.size, 0, none⟩ (.slice p6 (xs.length + 1) s6)).frozen? ⟨w7.heap.size + 1, 0, none⟩ = false := by rw [frozen_set]; exact fM1
            clear h2
            refine rdJ (rs := [9]) (by kernel_rfl) (by simp) (fun i hi => ?_)
            simp only [List.mem_cons, List.not_mem_nil, or_false] at hi
            subst hi
            refine opJ 9 1023 (fun Kk hKk => ?_)
            go_simp
            refine hKk _ _ cM2 ?_
            clear hKk Kk
            (try simp only [List.setIfInBounds_toArray, List.set_cons_zero, List.set_cons_succ])
            refine rdJ (rs := [10]) (by kernel_rfl) (by simp) (fun i hi => ?_)
            simp only [List.mem_cons, List.not_mem_nil, or_false] at hi
            subst hi
            refine opJ 10 2047 (fun Kk hKk => ?_)
            go_simp
            refine hKk _ _ trivial ?_
            clear hKk Kk
            exact doneJ ⟨rfl, hst⟩
          · refine opJ 7 239 (fun Kk hKk => ?_)
            go_simp
            have h2 := h2.new (.cells #[.int .i64 (b : Int)] 3)
            refine hKk _ _ (unhide HC2 _ h2.fr).1 ?_
            clear hKk Kk
            (try simp only [List.setIfInBounds_toArray, List.set_cons_zero, List.set_cons_succ])
            refine rdJ (rs := [4]) (by kernel_rfl) (by simp) (fun i hi => ?_)
            simp only [List.mem_cons, List.not_mem_nil, or_false] at hi
            subst hi
            have cb := (show ((Vd.alloc (.cells #[.int .i64 op] 3)).alloc (.cells #[.int .i64 (b : Int)] 3)).cell? ⟨Vd.heap.size + 1, 0, none⟩ = some (.int .i64 (b : Int)) by simp [go_sem])
            obtain ⟨p6, s6, ua, hr4, h2, hk6⟩ := h2.app4 hN (b := Vd.heap.size) (x := op) (by simp [go_sem]) hx
            refine opJ 4 255 (fun Kk hKk => ?_)
            refine oper_app (by rfl) (by rfl) hr4 ?_
            refine hKk _ _ (unhide HC2 _ h2.fr).1 ?_
            clear hKk Kk hr4
            (try simp only [List.setIfInBounds_toArray, List.set_cons_zero, List.set_cons_succ])
            refine rdJ (rs := [8]) (by kernel_rfl) (by simp) (fun i hi => ?_)
            simp only [List.mem_cons, List.not_mem_nil, or_false] at hi
            subst hi
            obtain ⟨p7, s7, ub, hr8, h2⟩ := h2.app5 hN (b := Vd.heap.size + 1) (x := (b : Int)) (hk6 _ _ cb (fun hm => by have := unhide HOl _ hm; simp only at this; omega)) hd
            refine opJ 8 511 (fun Kk hKk => ?_)
            refine oper_app (by rfl) (by rfl) hr8 ?_
            refine hKk _ _ (unhide HC2 _ h2.fr).1 ?_
            clear hKk Kk hr8
            (try simp only [List.setIfInBounds_toArray, List.set_cons_zero, List.set_cons_succ])
            have hq := unhide HC2 _ h2.fr
            obtain ⟨⟨cM, -, cM1⟩, fM, fM1⟩ := hq
            have hst := unhide HSt _ _ _ _ _ h2
            have cM2 := cell_set_blk (o' := 0) (v := .slice p6 (xs.length + 1) s6) cM1 (show w7.heap.size + 1 ≠ w7.heap.size by omega)
            have fM2 : (ub.setCell ⟨w7.heap.size, 0, none⟩ (.slice p6 (xs.length + 1) s6)).frozen? ⟨w7.heap.size + 1, 0, none⟩ = false := by rw [frozen_set]; exact fM1
            clear h2
            refine rdJ (rs := [9]) (by kernel_rfl) (by simp) (fun i hi => ?_)
            simp only [List.mem_cons, List.not_mem_nil, or_false] at hi
            subst hi
            refine opJ 9 1023 (fun Kk hKk => ?_)
            go_simp
            refine hKk _ _ cM2 ?_
            clear hKk Kk
            (try simp only [List.setIfInBounds_toArray, List.set_cons_zero, List.set_cons_succ])
            refine rdJ (rs := [10]) (by kernel_rfl) (by simp) (fun i hi => ?_)
            simp only [List.mem_cons, List.not_mem_nil, or_false] at hi
            subst hi
            refine opJ 10 2047 (fun Kk hKk => ?_)
            go_simp
            refine hKk _ _ trivial ?_
            clear hKk Kk
            exact doneJ ⟨rfl, hst⟩
        · refine opJ 7 231 (fun Kk hKk => ?_)
          go_simp
          have h2 := h2.new (.cells #[.int .i64 (b : Int)] 3)
          refine hKk _ _ (unhide HC2 _ h2.fr).1 ?_
          clear hKk Kk
          (try simp only [List.setIfInBounds_toArray, List.set_cons_zero, List.set_cons_succ])
          refine rdJ (rs := [3]) (by kernel_rfl) (by simp) (fun i hi => ?_)
          simp only [List.mem_cons, List.not_mem_nil, or_false] at hi
          subst hi
          refine opJ 3 239 (fun Kk hKk => ?_)
          go_simp
          have h2 := h2.new (.cells #[.int .i64 op] 3)
          refine hKk _ _ (unhide HC2 _ h2.fr).1 ?_
          clear hKk Kk
          (try simp only [List.setIfInBounds_toArray, List.set_cons_zero, List.set_cons_succ])
          refine rdJ (rs := [4]) (by kernel_rfl) (by simp) (fun i hi => ?_)
          simp only [List.mem_cons, List.not_mem_nil, or_false] at hi
          subst hi
          have cb := (show ((Vd.alloc (.cells #[.int .i64 (b : Int)] 3)).alloc (.cells #[.int .i64 op] 3)).cell? ⟨Vd.heap.size, 0, none⟩ = some (.int .i64 (b : Int)) by simp [go_sem])
          obtain ⟨p6, s6, ua, hr4, h2, hk6⟩ := h2.app4 hN (b := Vd.heap.size + 1) (x := op) (by simp [go_sem]) hx
          refine opJ 4 255 (fun Kk hKk => ?_)
          refine oper_app (by rfl) (by rfl) hr4 ?_
          refine hKk _ _ (unhide HC2 _ h2.fr).1 ?_
          clear hKk Kk hr4
          (try simp only [List.setIfInBounds_toArray, List.set_cons_zero, List.set_cons_succ])
          refine rdJ (rs := [8]) (by kernel_rfl) (by simp) (fun i hi => ?_)
          simp only [List.mem_cons, List.not_mem_nil, or_false] at hi
          subst hi
          obtain ⟨p7, s7, ub, hr8, h2⟩ := h2.app5 hN (b := Vd.heap.size) (x := (b : Int)) (hk6 _ _ cb (fun hm => by have := unhide HOl _ hm; simp only at this; omega)) hd
          refine opJ 8 511 (fun Kk hKk => ?_)
          refine oper_app (by rfl) (by rfl) hr8 ?_
          refine hKk _ _ (unhide HC2 _ h2.fr).1 ?_
          clear hKk Kk hr8
          (try simp only [List.setIfInBounds_toArray, List.set_cons_zero, List.set_cons_succ])
          have hq := unhide HC2 _ h2.fr
          obtain ⟨⟨cM, -, cM1⟩, fM, fM1⟩ := hq
          have hst := unhide HSt _ _ _ _ _ h2
          have cM2 := cell_set_blk (o' := 0) (v := .slice p6 (xs.length + 1) s6) cM1 (show w7.heap.size + 1 ≠ w7.heap.size by omega)
          have fM2 : (ub.setCell ⟨w7.heap.size, 0, none⟩ (.slice p6 (xs.length + 1) s6)).frozen? ⟨w7.heap.size + 1, 0, none⟩ = false := by rw [frozen_set]; exact fM1
          clear h2
          refine rdJ (rs := [9]) (by kernel_rfl) (by simp) (fun i hi => ?_)
          simp only [List.mem_cons, List.not_mem_nil, or_false] at hi
          subst hi
          refine opJ 9 1023 (fun Kk hKk => ?_)
          go_simp
          refine hKk _ _ cM2 ?_
          clear hKk Kk
          (try simp only [List.setIfInBounds_toArray, List.set_cons_zero, List.set_cons_succ])
          refine rdJ (rs := [10]) (by kernel_rfl) (by simp) (fun i hi => ?_)
          simp only [List.mem_cons, List.not_mem_nil, or_false] at hi
          subst hi
          refine opJ 10 2047 (fun Kk hKk => ?_)
          go_simp
          refine hKk _ _ trivial ?_
          clear hKk Kk
          exact doneJ ⟨rfl, hst⟩
    case done =>
      rintro xs V hS ⟨v4, v5, h⟩ hD
      have e4 : xs.map (fun x => x.1.op) = opsOf 0 T := by rw [opsOf, ← hS, List.map_map]; rfl
      have e5 : xs.map (fun x => (x.1.b : Int)) = depOf 0 T := by rw [depOf, ← hS, List.map_map]; rfl
      rw [e4, e5] at h
      obtain ⟨p4, s4, rfl⟩ := h.o4.slice
      obtain ⟨p5, s5, rfl⟩ := h.o5.slice
      have k4 := opsOf_len 0 T
      have k5 := depOf_len 0 T
      have c4 := h.c4
      have c5 := h.c5
      have HO4 := hide h.o4.slc
      have HO5 := hide h.o5.slc
      have HB := hide (Fr.of (h.bel) [])
      have hsV := h.size
      have HD := hide hD
      have hq := told_any (T.size + 1) T _ _ 0 V (Nat.lt_succ_self _) (by omega) h.fov
      clear h hS e4 e5 hD
      rw [k4] at c4
      rw [k5] at c5
      gi_wp2
      refine ⟨trivial, callsIn_wide.2 (hq.mono ?_)⟩
      clear hq
      rintro _ V2 ⟨a1, la, ca, b1, lb, cb, rfl, rfl, rfl, hSa, hSb, hF2⟩
      have c4 := hF2.keep c4 (by simp)
      have c5 := hF2.keep c5 (by simp)
      have hq1 := sames_any (by omega) ((unhide HO4).fr hF2 (by simp)) hSa
      rw [k4] at hq1
      have HO5 := hide ((unhide HO5).fr hF2 (by simp))
      have HSb := hide hSb
      have HF2 := hide hF2
      have hD2 : V2.heap[w8.heap.size]? = some (.deferred (some [])) := (hF2.block _ (Array.getElem?_eq_some_iff.1 (unhide HD)).1 (by simp)).trans (unhide HD)
      have HD2 := hide hD2
      clear hSa hSb hF2 hD2
      gi_wp2
      refine ⟨trivial, callsIn_wide.2 (hq1.mono ?_)⟩
      clear hq1
      rintro _ V3 ⟨rfl, hF3⟩
      have c5 := hF3.keep c5 (by simp)
      have hq1 := sames_any (by omega) ((unhide HO5).fr hF3 (by simp)) ((unhide HSb).fr hF3 (by simp))
      rw [k5] at hq1
      have HF3 := hide ((unhide HF2).trans hF3)
      have HD3 := hide ((hF3.block _ (Array.getElem?_eq_some_iff.1 (unhide HD2)).1 (by simp)).trans (unhide HD2))
      clear hF3
      gi_wp2
      refine ⟨trivial, callsIn_wide.2 (hq1.mono ?_)⟩
      clear hq1
      rintro _ V4 ⟨rfl, hF4⟩
      have HF4 := hide (((unhide HB).trans (unhide HF3)).trans hF4)
      have HD4 := hide ((hF4.block _ (Array.getElem?_eq_some_iff.1 (unhide HD3)).1 (by simp)).trans (unhide HD3))
      clear hF4
      gi_wp2
      refine ⟨by simp, .inl ⟨_, _, rfl, run_takeDeferred (unhide HD4), ?_⟩⟩
      exact ⟨_, results_tmp rfl _ _ _, rfl, (unhide HF4).nil.grown (grownBy_putObj' _ _ _) (unhide HF4).size (fun k e => by cases e; omega)⟩
end Go.Proofs.YtalahdkgigcpfaaDoor
