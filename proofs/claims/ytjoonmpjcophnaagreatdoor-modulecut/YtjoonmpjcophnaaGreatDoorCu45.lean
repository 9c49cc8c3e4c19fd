/- CeA, PlA, PrB, PpA, PlB, PsA, PlC, PsE, PlD, PsB, PlE, PsC, PlF, PsD, PpC. -/
import Derived.Test.YtjoonmpjcophnaaGreatDoorCu36
import Derived.Test.YtjoonmpjcophnaaGreatDoorCu43
import Derived.Deep.DeepCutAuto
namespace Go.Proofs.YtjoonmpjcophnaaGreatDoor
open Go.RowKit

/-- One of the instructions; the first ones. -/
def Fo.at : Fo → Nat → Option (Hd × Fo × Fo)
  | .nil, _ => none
  | .cons h t e _, 0 => some (h, t, e)
  | .cons _ _ _ r, i + 1 => r.at i
def Fo.pre : Nat → Fo → Fo
  | 0, _ => .nil
  | _ + 1, .nil => .nil
  | n + 1, .cons h t e r => .cons h t e (r.pre n)
theorem Enc.at {w : World} {P : Nat → Prop} : ∀ {T : Fo} {cs : List Value} {i : Nat} {h : Hd} {t e : Fo}, Enc w P T cs → T.at i = some (h, t, e) →
    ∃ vl vt ve, (∀ j, j < 9 → cs[i * 9 + j]? = (hcells h vl vt ve)[j]?) ∧ Slc w P h.list.length (uCells h.list) vl ∧ Fov w P t vt ∧ Fov w P e ve
  | .nil, _, _, _, _, _, _, hh => by cases hh
  | .cons h t e r, _, 0, _, _, _, ⟨vl, vt, ve, rest, h1, h2, h3, h4, _⟩, hh => by
    injection hh with hh; injection hh with g1 hh; injection hh with g2 g3; subst g1; subst g2; subst g3
    refine ⟨vl, vt, ve, fun j hj => ?_, h2, h3, h4⟩
    rw [h1, Nat.zero_mul, Nat.zero_add, List.getElem?_append_left (by show j < 9; exact hj)]
  | .cons h t e r, _, i + 1, _, _, _, ⟨vl, vt, ve, rest, h1, _, _, _, h5⟩, hh => by
    obtain ⟨ul, ut, ue, q1, q2⟩ := Enc.at h5 hh
    refine ⟨ul, ut, ue, fun j hj => ?_, q2⟩
    rw [← q1 j hj, h1, List.getElem?_append_right (by show 9 ≤ _; omega)]
    congr 1
    show (i + 1) * 9 + j - 9 = _
    omega
/-- A slice of instructions: where it lies, and each of them. -/
theorem Fov.open {w : World} {P : Nat → Prop} {T : Fo} {v : Value} (h : Fov w P T v) : ∃ a cap, v = .slice a T.len cap ∧ T.len ≤ cap ∧ (T.len = 0 ∨ ∃ b off, a = some ⟨b, off, none⟩ ∧ P b ∧ ∀ i hd t e, T.at i = some (hd, t, e) →
    ∃ vl vt ve, (∀ j, j < 9 → w.cell? ⟨b, off + i * 9 + j, none⟩ = (hcells hd vl vt ve)[j]?) ∧ Slc w P hd.list.length (uCells hd.list) vl ∧ Fov w P t vt ∧ Fov w P e ve) := by
  obtain ⟨cs, h1, a, cap, h2, h3, h4, h5⟩ := h
  refine ⟨a, cap, h2, h3, ?_⟩
  rcases h5 with ⟨h6, _⟩ | ⟨b, off, h6, h7, h8⟩
  · exact .inl h6
  · by_cases h0 : T.len = 0
    · exact .inl h0
    · refine .inr ⟨b, off, h6, h7 (by omega), fun i hd t e hi => ?_⟩
      obtain ⟨vl, vt, ve, q1, q2⟩ := h1.at hi
      refine ⟨vl, vt, ve, fun j hj => ?_, q2⟩
      have q := q1 j hj
      have hs : ∃ u, (hcells hd vl vt ve)[j]? = some u := ⟨_, List.getElem?_eq_getElem (show j < 9 from hj)⟩
      obtain ⟨u, hu⟩ := hs
      rw [hu] at q ⊢
      rw [Nat.add_assoc]
      exact h8 _ _ q
/-- An instruction's cells. -/
def Elt (w : World) (b o : Nat) (hd : Hd) (vl vt ve : Value) : Prop := w.cell? ⟨b, o, none⟩ = some (.int .i64 hd.op) ∧ w.cell? ⟨b, o + 1, none⟩ = some (.int .u8 hd.ty) ∧ w.cell? ⟨b, o + 2, none⟩ = some (.int .u32 hd.a) ∧ w.cell? ⟨b, o + 3, none⟩ = some (.int .u32 hd.b) ∧ w.cell? ⟨b, o + 4, none⟩ = some (.int .u64 hd.bits) ∧
  w.cell? ⟨b, o + 5, none⟩ = some vl ∧ w.cell? ⟨b, o + 6, none⟩ = some vt ∧ w.cell? ⟨b, o + 7, none⟩ = some ve ∧ w.cell? ⟨b, o + 8, none⟩ = some (.bool hd.has)
theorem Elt.fr {w w' : World} {b o : Nat} {hd : Hd} {vl vt ve : Value} {l : List Nat} (h : Elt w b o hd vl vt ve) (hf : Fr l w w') (hn : b ∉ l) : Elt w' b o hd vl vt ve :=
  ⟨hf.keep h.1 hn, hf.keep h.2.1 hn, hf.keep h.2.2.1 hn, hf.keep h.2.2.2.1 hn, hf.keep h.2.2.2.2.1 hn, hf.keep h.2.2.2.2.2.1 hn, hf.keep h.2.2.2.2.2.2.1 hn, hf.keep h.2.2.2.2.2.2.2.1 hn, hf.keep h.2.2.2.2.2.2.2.2 hn⟩
theorem Fov.slc {w : World} {P : Nat → Prop} {T : Fo} {v : Value} (h : Fov w P T v) : ∃ a cap, v = .slice a T.len cap := by
  obtain ⟨_, _, a, cap, h, _⟩ := h
  exact ⟨a, cap, h⟩
end Go.Proofs.YtjoonmpjcophnaaGreatDoor
namespace Go.Proofs.YtjoonmpjcophnaaGreatDoor
open Go.RowKit

theorem szP132 : (Tryz.prog.info? 132).map (·.size) = some 2 := by kernel_rfl
theorem mkP132 (m : Nat) (hm : m ≤ 4096) : ∃ Z : Array Value, ∀ w, (Instr.makeSlice 129 (.int .i64 (m : Int)) (.int .i64 (m : Int))).run Tryz.prog w = .ok (.slice (some ⟨w.heap.size, 0, none⟩) m m) (w.alloc (.cells (madeCells Z (m * 2)) 132)) :=
  ⟨_, fun w => make_runK 129 132 2 Tryz.underlying129 (i := (Tryz.prog.info? 132).getD default) (z := (((Tryz.prog.info? 132).getD default).zero).getD default) (by kernel_rfl) (by kernel_rfl) (by kernel_rfl) (by kernel_rfl) m hm w⟩
section
variable {c : Nat} {a : Option Addr} {len cap k : Nat} {xs : List Int} {e : Int} {W : World} {sat : Bool} {q : Nat}
set_option maxHeartbeats 4000000 in
set_option maxRecDepth 100000 in
theorem list36_any {J : World → Prop} (h : Cs c a len cap xs k e W) (hJ : J W) (HJ : ∀ w w' l, J w → Fr l w w' → (∀ i ∈ l, i = c ∨ W.heap.size ≤ i) → J w')
    (HO : ∀ k e w, W.heap.size ≤ w.heap.size → Cs c a len cap xs k e w → J w → Calls Tryz.prog 37 #[.pointer (some ⟨q, 0, none⟩)] w fun r w' => ∃ y cs k' e', r = .returned (.agg cs.toArray) ∧ Rd rPair xs k e y k' e' ∧ eGq.rep' w' (fun b => w.heap.size ≤ b) 0 y cs ∧ Cs c a len cap xs k' e' w' ∧ J w' ∧ Fr [c] w w') :
    Calls Tryz.prog 36 #[.pointer (some ⟨c, 0, none⟩), .func (.func 37) #[] #[.pointer (some ⟨q, 0, none⟩)]] W fun r W' => ∃ L g k' e', r = .returned (.slice (some ⟨g, 0, none⟩) L.length L.length) ∧ Rd (rList rPair) xs k e L k' e' ∧ Sls eGq W' (fun b => W.heap.size ≤ b) L (.slice (some ⟨g, 0, none⟩) L.length L.length) ∧ L.length ≤ 4096 ∧ Cs c a len cap xs k' e' W' ∧ J W' ∧ Fr [c] W W' := by
  have HX := hide (p_count h)
  have hcl := h.1.lt
  have HAl : Hid (∀ p, a = some p → 0 < len → p.block < W.heap.size) := hide h.2.1.lt
  have HJ0 := hide hJ
  have HJs := hide HJ
  have HOs := hide HO
  clear h hJ HJ HO
  go_enter Tryz.func36, Tryz.ntmps36
  go_wp2_with fail
  refine (unhide HX).mono ?_
  rintro _ w1 ⟨m, k1, e1, rfl, hD, hm, hC, hF⟩
  have HD := hide hD
  have HC := hide hC
  have HF := hide hF
  have hsz := hF.size
  have HJ1 := hide ((unhide HJs) _ _ _ (unhide HJ0) hF (by simp))
  clear hD hC hF HX HJ0
  obtain ⟨Z, hmk⟩ := mkP132 m hm
  go_wp2_with fail
  clear hmk
  have hb := below1 w1 (.cells (madeCells Z (m * 2)) 132)
  have HM := hide (Prw.made (E := eGq) w1 m W.heap.size Z 132 0 hsz)
  change Hid (Prw eGq w1.heap.size m W.heap.size [] 0 (w1.alloc (.cells (madeCells Z (m * 2)) 132))) at HM
  have HC := hide ((unhide HC).bel hb)
  have HF := hide ((unhide HF).bel hb)
  have HJ1 := hide ((unhide HJs) _ _ _ (unhide HJ1) (Fr.of hb []) (by simp))
  have hsz2 : (w1.alloc (.cells (madeCells Z (m * 2)) 132)).heap.size = w1.heap.size + 1 := by simp
  clear hb
  generalize w1.alloc (.cells (madeCells Z (m * 2)) 132) = w2 at *
  go_loopw [12] (fun v12 wr => ∃ (L : List _) (k2 : Nat) (e2 : Int), L.length ≤ m ∧ v12 = .int .i64 (L.length : Int) ∧ Prw eGq w1.heap.size m W.heap.size L 0 wr ∧ Cs c a len cap xs k2 e2 wr ∧ J wr ∧ Fr [c] W wr ∧ w1.heap.size < wr.heap.size ∧ (∀ s k' e', Rd (repR rPair (m - L.length)) xs k2 e2 s k' e' → Rd (rList rPair) xs k e (id (L ++ s)) k' e')) (fun v12 _ => m - (intOf v12).toNat)
  case atStart =>
    refine ⟨[], k1, e1, Nat.zero_le _, rfl, unhide HM, unhide HC, unhide HJ1, unhide HF, by omega, fun s k' e' hs => (unhide HD).bd ?_⟩
    rw [show ((m : Int)).toNat = m by omega]
    exact hs
  case round =>
    obtain ⟨L, k2, e2, hi, rfl, hP, hC, hJ, hF, hlg, hK⟩ := hrel
    clear HM HC HJ1 HF HD
    by_cases hlt : L.length < m
    · have hi' : (L.length : Int) < (m : Int) := by omega
      have HX := hide (unhide HOs k2 e2 _ hF.size hC hJ)
      have HP := hide hP
      have HF := hide hF
      have HK := hide hK
      clear hP hC hJ hF hK
      go_wp2_with fail
      refine (unhide HX).mono ?_
      rintro _ w3 ⟨y, cs, k3, e3, rfl, hD, hy, hC, hJ, hF2⟩
      have hsz3 := hF2.size
      have hsW := (unhide HF).size
      have HP2 := hide ((unhide HP).fr hF2 (by simp; omega) (by simp; omega) (fun q => q))
      have HF3 := hide ((unhide HF).trans hF2)
      have HKn := hide (Rd.more2 id (n := m - (L.length + 1)) (by rw [show m - (L.length + 1) + 1 = m - L.length by omega]; exact unhide HK) hD)
      have hcl2 : cs.length = 2 := hy.len
      have hone := hy.one
      have HY := hide hy
      have HC2 := hide hC
      have HJ2 := hide hJ
      clear hD hy hC hJ hF2 HX HP HF HK
      go_wp2_with ((refine wpList_storeA rfl 132 (.tmp 19) (.tmp 18) rfl rfl (g := w1.heap.size) (off := L.length * 2) (cs := cs) rfl rfl (by rw [hcl2]; exact szP132) (fun j hj => (unhide HP2).spare hlt (show j < 2 by omega)) hone ?_))
      have hFg := fr_cells w1.heap.size cs (L.length * 2) w3
      have hl1 : (L ++ [y]).length = L.length + 1 := by simp
      refine ⟨⟨L ++ [y], k3, e3, by omega, by rw [hl1]; go_num, (unhide HP2).put hlt hcl2 (fun q => q) (fun q => (unhide HY).rep q (fun b _ hb => ⟨by omega, by omega⟩)), (unhide HC2).fr hFg (by simp; omega) (fun p hp hl => by have := unhide HAl p hp hl; simp; omega), unhide HJs _ _ _ (unhide HJ2) hFg (by simp; omega), (unhide HF3).thenL hFg (by simp; omega), by have := hFg.size; omega, by rw [hl1]; exact unhide HKn⟩, by simp [intOf]; omega⟩
    · obtain rfl : m = L.length := by omega
      have HP := hide hP
      have HC := hide hC
      have HJ2 := hide hJ
      have HF := hide hF
      have HK := hide (Rd.fin id hK (.inl (by omega)))
      clear hP hC hF hJ hK
      go_wp2_with fail
      go_ret
      exact ⟨L, w1.heap.size, k2, e2, rfl, unhide HK, (unhide HP).sls, hm, unhide HC, unhide HJ2, unhide HF⟩
end
end Go.Proofs.YtjoonmpjcophnaaGreatDoor
namespace Go.Proofs.YtjoonmpjcophnaaGreatDoor
open Go.RowKit

theorem els_bq {w : World} {P : Nat → Prop} : ∀ {L : List (Int × Int)} {cs : List Value}, Els eGq w P L cs → Bq L
  | [], _, _ => fun x hx => by cases hx
  | y :: L, _, ⟨_, _, _, hx, hr⟩ => fun x h => by
    rcases List.mem_cons.1 h with rfl | h
    · exact hx.2
    · exact els_bq hr x h
theorem Sls.bq {w : World} {P : Nat → Prop} {L : List (Int × Int)} {v : Value} (h : Sls eGq w P L v) : Bq L := by
  obtain ⟨_, h1, _⟩ := h
  exact els_bq h1
/-- Why there may not be as many. -/
def tmE (L : List (Int × Int)) : Int := if 4294967295 < sumN L then 110 else if 1024 < sumN L then 3 else 0
theorem sum_next {L : List (Int × Int)} {i : Nat} {x : Int × Int} (h : L[i]? = some x) : sumN (L.take (i + 1)) = sumN (L.take i) + x.1 := by
  rw [List.take_add_one, h]
  exact sum_put _ _
theorem Bq.take {L : List (Int × Int)} (h : Bq L) (i : Nat) : Bq (L.take i) := fun x hx => h x (List.mem_of_mem_take hx)
set_option maxHeartbeats 4000000 in
set_option maxRecDepth 100000 in
theorem toomany_any {L : List (Int × Int)} {P : Nat → Prop} {v : Value} {W : World} (hl : L.length ≤ 4096) (h : Sls eGq W P L v) : Calls Tryz.prog 40 #[v] W fun r W' => r = .returned (.int .i64 (tmE L)) ∧ Fr [] W W' := by
  have hB := h.bq
  obtain ⟨a1, c1, rfl, -, h1⟩ := h.open
  have H1 := hide h1
  have HB := hide hB
  clear h1 h
  have hsum := hB.sum
  go_enter Tryz.func40, Tryz.ntmps40
  go_wp2_with fail
  go_loopw [3, 8] (fun v3 v8 wr => ∃ (i : Nat), i ≤ L.length ∧ v8 = .int .i64 (i : Int) ∧ v3 = .int .u64 (sumN (L.take i)) ∧ Fr [] W wr) (fun _ v8 _ => L.length - (intOf v8).toNat)
  case atStart => exact ⟨0, by omega, rfl, rfl, Fr.refl _ _⟩
  case round =>
    obtain ⟨i, hi, rfl, rfl, hF⟩ := hrel
    by_cases hlt : i < L.length
    · have hi' : (i : Int) < (L.length : Int) := by omega
      have hi2 : (0 : Int) ≤ (i : Int) := by omega
      rcases unhide H1 with h0 | ⟨b1, o1, rfl, -, k1⟩
      · omega
      have hx := List.getElem?_eq_getElem hlt
      have hn := sum_next hx
      obtain ⟨_, ⟨rfl, hr1, hr2⟩, k1⟩ := k1 i L[i] hx
      have hs1 := ((unhide HB).take i).sum
      have hs2 := ((unhide HB).take (i + 1)).sum
      have ht1 : (L.take i).length ≤ 4096 := by rw [List.length_take]; omega
      have ht2 : (L.take (i + 1)).length ≤ 4096 := by rw [List.length_take]; omega
      generalize L[i] = x at *
      have g10 := hF.keep (k1 0 (by decide)) (by simp)
      have g11 := hF.keep (k1 1 (by decide)) (by simp)
      change wr.cell? ⟨b1, o1 + i * 2, none⟩ = some (.int .u32 x.1) at g10
      change wr.cell? ⟨b1, o1 + i * 2 + 1, none⟩ = some (.int .u8 x.2) at g11
      have w1 : IntKind.u64.wrap x.1 = x.1 := u64w_id (by omega) (by omega)
      have w2 : IntKind.u64.wrap (sumN (L.take i) + x.1) = sumN (L.take i) + x.1 := u64w_id (by omega) (by omega)
      have HN := hide hn
      have HF := hide hF
      clear k1 hF hn hs1 hs2 hx
      go_wp2_with fail
      exact ⟨⟨i + 1, by omega, by go_num, by rw [unhide HN], (unhide HF).alloc _⟩, by simp [intOf]; omega⟩
    · obtain rfl : i = L.length := by omega
      rw [List.take_length]
      have HF := hide hF
      clear hF
      by_cases c1 : 4294967295 < sumN L
      · have c1' : (4294967296 : Int) ≤ sumN L := by omega
        have e0 : tmE L = 110 := by unfold tmE; rw [if_pos c1]
        have E0 := hide e0
        clear e0
        go_wp2_with fail
        go_ret
        exact ⟨by rw [unhide E0]; rfl, unhide HF⟩
      · have c1' : ¬ (4294967296 : Int) ≤ sumN L := by omega
        by_cases c2 : 1024 < sumN L
        · have e0 : tmE L = 3 := by unfold tmE; rw [if_neg c1, if_pos c2]
          have E0 := hide e0
          clear e0
          go_wp2_with fail
          go_ret
          exact ⟨by rw [unhide E0]; rfl, unhide HF⟩
        · have e0 : tmE L = 0 := by unfold tmE; rw [if_neg c1, if_neg c2]
          have E0 := hide e0
          clear e0
          go_wp2_with fail
          go_ret
          exact ⟨by rw [unhide E0]; rfl, unhide HF⟩
theorem bys_rep (n : Nat) (y : Int) : bys (List.replicate n y) = List.replicate n (Value.int .u8 y) := by simp [bys]
section
variable {c : Nat} {a : Option Addr} {len cap k : Nat} {xs : List Int} {e : Int} {W : World}
theorem rlocals_why {L : List (Int × Int)} {k2 : Nat} {e1 : Int} (h : Rd (rList rPair) xs k e L k2 e1) (he : (if e1 = 0 then tmE L else e1) ≠ 0) : Rd rLoc xs k e [] k2 (if e1 = 0 then tmE L else e1) := by
  by_cases h1 : e1 = 0
  · subst h1
    rw [if_pos rfl] at he ⊢
    unfold tmE at he ⊢
    by_cases c1 : 4294967295 < sumN L
    · rw [if_pos c1]
      exact rlocals_110 h c1
    · rw [if_neg c1] at he ⊢
      by_cases c2 : 1024 < sumN L
      · rw [if_pos c2]
        exact rlocals_3 h c1 c2
      · rw [if_neg c2] at he
        exact absurd rfl he
  · rw [if_neg h1]
    exact rlocals_nil h h1
theorem tm_zero {L : List (Int × Int)} {e1 : Int} (he : (if e1 = 0 then tmE L else e1) = 0) : e1 = 0 ∧ ¬ 1024 < sumN L := by
  by_cases h1 : e1 = 0
  · rw [if_pos h1] at he
    unfold tmE at he
    by_cases c1 : 4294967295 < sumN L
    · rw [if_pos c1] at he; exact absurd he (by decide)
    · rw [if_neg c1] at he
      by_cases c2 : 1024 < sumN L
      · rw [if_pos c2] at he; exact absurd he (by decide)
      · exact ⟨h1, c2⟩
  · rw [if_neg h1] at he
    exact absurd he h1
set_option maxHeartbeats 8000000 in
set_option maxRecDepth 100000 in
theorem p_locals (h : Cs c a len cap xs k e W) (hm : Mk W) (hc : 4 ≤ c) : Calls Tryz.prog 13 #[.pointer (some ⟨c, 0, none⟩)] W fun r W' => ∃ (L : List Int) (p : Option Addr) (s k' : Nat) (e' : Int), r = .returned (.slice p L.length s) ∧ Rd rLoc xs k e L k' e' ∧ (e' = 0 → Slc W' (fun b => W.heap.size ≤ b) L.length (bys L) (.slice p L.length s)) ∧ Cs c a len cap xs k' e' W' ∧ Mk W' ∧ Fr [c] W W' := by
  have hcl := h.1.lt
  have HAl : Hid (∀ p, a = some p → 0 < len → p.block < W.heap.size) := hide h.2.1.lt
  have hb := below1 W (.cells #[.pointer (some ⟨c, 0, none⟩)] 53)
  have HV := vr_new [.pointer (some ⟨c, 0, none⟩)] 53 W
  have hq : W.heap.size < (W.alloc (.cells #[.pointer (some ⟨c, 0, none⟩)] 53)).heap.size := by simp
  have hB : Tab (W.alloc (.cells #[.pointer (some ⟨c, 0, none⟩)] 53)) W.heap.size [.pointer (some ⟨c, 0, none⟩)] := HV.tab
  have HF0 := hide (Fr.of hb [c])
  have HX := hide (list36_any (q := W.heap.size) (h.bel hb) (J := fun w => Mk w ∧ Tab w W.heap.size [.pointer (some ⟨c, 0, none⟩)] ∧ W.heap.size < w.heap.size) ⟨hm.below hb, hB, hq⟩ (fun w w' l hJ hf hl => ⟨hJ.1.fr hf (fun i hi => by rcases hl i hi with q | q <;> omega), hJ.2.1.fr hf (fun hi => by rcases hl _ hi with q | q <;> omega), Nat.lt_of_lt_of_le hJ.2.2 hf.size⟩)
    (fun k e w hw hC hJ => (clos37_any hC hJ.1 hc hJ.2.1 hJ.2.2 (by omega)).mono (by rintro _ w' ⟨y, cs, k1, e1, rfl, hD, hR, hC2, hM2, hB2, hF⟩; exact ⟨y, cs, k1, e1, rfl, hD, hR, hC2, ⟨hM2, hB2, Nat.lt_of_lt_of_le hJ.2.2 hF.size⟩, hF⟩)))
  have HB0 := hide hB
  clear h hm hb HV hB
  have z0 := (unhide HB0) 0 _ rfl
  go_enter Tryz.func13, Tryz.ntmps13
  go_wp2_with fail
  refine (unhide HX).mono ?_
  rintro _ w1 ⟨L, g, k1, e1, rfl, hD, hS, hlen, hC, hJ, hF⟩
  have HD := hide hD
  have HS := hide hS
  have HC := hide hC
  have HM := hide hJ.1
  have HB := hide hJ.2.1
  have hq1 := hJ.2.2
  have HF := hide ((unhide HF0).trans hF)
  clear hD hS hC hJ hF HX z0 HB0
  go_wp2_with fail
  refine wp_region_held_drew (S := fun w' => w'.cell? ⟨W.heap.size, 0, none⟩ = some (.pointer (some ⟨c, 0, none⟩))) (by kernel_rfl) ?_ (fun hHeld => ?_)
  · (try dsimp only)
    exact (unhide HB) 0 _ rfl
  refine lst0 4 (by kernel_rfl) ?_
  refine tkA 0 10 1 ?_
  refine tkA 1 11 3 ?_
  have hdr : Fr [] w1 w1.drew := (Fr.refl [] w1).drew
  have HS := hide ((unhide HS).fr hdr (by simp))
  have HC := hide ((unhide HC).fr hdr (by simp) (by simp))
  have HM := hide ((unhide HM).fr hdr (by simp))
  have HB := hide ((unhide HB).fr hdr (by simp))
  have HF := hide ((unhide HF).thenL hdr (by simp))
  have hq1 : W.heap.size < w1.drew.heap.size := hq1
  generalize w1.drew = w1 at *
  refine rdA 2 7 (fun Kk hKk => ?_)
  go_simp
  refine (toomany_any hlen (unhide HS)).mono ?_
  rintro _ w2 ⟨rfl, hF⟩
  have HS := hide ((unhide HS).fr hF (by simp))
  have HC := hide ((unhide HC).fr hF (by simp) (by simp))
  have HM := hide ((unhide HM).fr hF (by simp))
  have HB := hide ((unhide HB).fr hF (by simp))
  have HF := hide ((unhide HF).thenL hF (by simp))
  have hq2 := Nat.lt_of_lt_of_le hq1 hF.size
  clear hF
  (try go_wp2_with fail)
  refine hKk.out _ _ ?_ (fun hHeld => ?_)
  · (try dsimp only)
    exact (unhide HB) 0 _ rfl
  clear hKk Kk
  (try simp only [List.setIfInBounds_toArray, List.set_cons_zero, List.set_cons_succ])
  refine rdA 3 15 (fun Kk hKk => ?_)
  go_simp
  refine (Fail_any (unhide HC)).mono ?_
  rintro _ w3 ⟨rfl, hC, hF⟩
  have HS := hide ((unhide HS).mono (P' := fun b => W.heap.size < b ∧ b < w2.heap.size) (fun b hb hp => ⟨by simp at hp; omega, hb⟩) |>.fr hF (by simp; omega))
  have HC3 := hide hC
  have HM := hide ((unhide HM).fr hF (by simp; omega))
  have HB := hide ((unhide HB).fr hF (by simp; omega))
  have HF := hide ((unhide HF).trans hF)
  have hq3 := hF.size
  clear hC hF
  (try go_wp2_with fail)
  refine hKk.out _ _ ?_ (fun hHeld => ?_)
  · (try dsimp only)
    exact (unhide HB) 0 _ rfl
  clear hKk Kk
  (try simp only [List.setIfInBounds_toArray, List.set_cons_zero, List.set_cons_succ])
  refine wpAnyH_done (by kernel_rfl) ?_ _
  have z0 := (unhide HB) 0 _ rfl
  go_wp2_with fail
  have hEq := hide (rlocals_why (unhide HD))
  have hZ := hide (fun (q : (if e1 = 0 then tmE L else e1) = 0) => tm_zero (L := L) (e1 := e1) q)
  have HK := hide (fun (q : (if e1 = 0 then tmE L else e1) = 0) => rlocals_ok (xs := xs) (k := k) (e := e) (L := L) (k2 := k1) (by have h := unhide HD; rwa [(tm_zero q).1] at h) (tm_zero q).2)
  generalize (if e1 = 0 then tmE L else e1) = e2 at *
  refine (err_any (unhide HC3)).mono ?_
  rintro _ w ⟨rfl, rfl⟩
  by_cases he : e2 = 0
  · subst he
    obtain ⟨hz1, hz2⟩ := unhide hZ rfl
    subst hz1
    have HL := hide (unhide HK rfl)
    have hbq := (unhide HS).bq
    obtain ⟨a1, c1, ev, -, h1⟩ := (unhide HS).open
    injection ev with ev1 ev2 ev3
    subst ev1
    have H1 := hide h1
    have HQ := hide hbq
    clear h1 HS HD hEq hZ HK ev2 ev3
    go_wp2_with fail
    clear z0
    go_loopw [4, 19] (fun v4 v19 wr => ∃ (i : Nat), i ≤ L.length ∧ v19 = .int .i64 (i : Int) ∧ wr.ownsRow w.heap.size 5 1 v4 (spread (L.take i)).length (bys (spread (L.take i))) ∧ Fr [] w wr) (fun _ v19 _ => L.length - (intOf v19).toNat)
    case atStart => exact ⟨0, by omega, rfl, World.ownsRow_nil _ _ _ _, Fr.refl _ _⟩
    case round =>
      obtain ⟨i, hi, rfl, hO, hFr⟩ := hrel
      by_cases hlt : i < L.length
      · have hi' : (i : Int) < (L.length : Int) := by omega
        have hi2 : (0 : Int) ≤ (i : Int) := by omega
        rcases unhide H1 with h0 | ⟨b1, o1, hb1, -, k1'⟩
        · omega
        injection hb1 with hb1
        injection hb1 with hb1 hb2
        subst hb1
        subst hb2
        have hx := List.getElem?_eq_getElem hlt
        have hs1 := spread_take (unhide HQ) (i + 1)
        obtain ⟨_, ⟨rfl, hr1, hr2⟩, k1'⟩ := k1' i L[i] hx
        obtain ⟨n, hn⟩ := Int.eq_ofNat_of_zero_le hr1
        have hsp := spread_next (x := L[i].1) (y := L[i].2) hx
        generalize L[i] = x at *
        obtain ⟨x1, y⟩ := x
        dsimp only at *
        subst hn
        rw [Int.toNat_natCast] at hsp
        rw [hsp, List.length_append, List.length_replicate] at hs1
        have g10 := hFr.keep (k1' 0 (by decide)) (by simp)
        have g11 := hFr.keep (k1' 1 (by decide)) (by simp)
        change wr.cell? ⟨g, 0 + i * 2, none⟩ = some (.int .u32 (n : Int)) at g10
        change wr.cell? ⟨g, 0 + i * 2 + 1, none⟩ = some (.int .u8 y) at g11
        rw [Nat.zero_add] at g10 g11
        have w1 : IntKind.i64.wrap (n : Int) = (n : Int) := i64_id (by omega) (by omega)
        have HO := hide hO
        have HFr := hide hFr
        have HP := hide hsp
        have hs1' : (spread (L.take i)).length + n ≤ 1024 := by omega
        clear k1' hO hFr hsp hx hs1
        go_wp2_with fail
        have hcl : ((wr.alloc (.cells #[.int .u32 (n : Int), .int .u8 y] 132)).alloc (.cells #[.int .u8 y] 5)).cell? ⟨wr.heap.size + 1, 0, none⟩ = some (.int .u8 y) := by simp [go_sem]
        have hA : Fr [] wr ((wr.alloc (.cells #[.int .u32 (n : Int), .int .u8 y] 132)).alloc (.cells #[.int .u8 y] 5)) := Fr.of (below2 wr _ _) []
        generalize (wr.alloc (.cells #[.int .u32 (n : Int), .int .u8 y] 132)).alloc (.cells #[.int .u8 y] 5) = wa at *
        refine (repeat_any (by omega) hcl).mono ?_
        rintro _ w4 ⟨g2, s2, rfl, hs2, hg2, hcells, hF4⟩
        have hA4 := hA.trans hF4
        have hO4 := rof_fr (unhide HO) hA4 (by simp)
        have hsz4 := ((unhide HFr).trans hA4).size
        obtain ⟨v', w5, hrun, o1, o2, o3⟩ := app_own (c := s2) (t := 22) (e := 5) Tryz.underlying22 iU8 zero8 size8 bytes8 rfl (by decide) hO4 (m := n) (news := List.replicate n (.int .u8 y)) (a := ⟨g2, 0, none⟩) (by simp) (fun j u hj => by
          have hlt : j < (List.replicate n (Value.int .u8 y)).length := (List.getElem?_eq_some_iff.1 hj).1
          rw [List.length_replicate] at hlt
          rw [add_off, Nat.zero_add, hcells j hlt, ← hj, List.getElem?_replicate, if_pos hlt]) (fun v hv => by rw [List.eq_of_mem_replicate hv]; rfl) (by unfold maxLen; omega) (by omega) hsz4
        have HRun := hide hrun
        have HO5 := hide o1
        have HF5 := hide (((unhide HFr).trans hA4).thenL (fr_grown o2) (fun i hi => .inr (World.ownsRow.lt hO4 i (by simpa using hi)).1))
        clear hrun o1 o2 o3 hO4 hA hA4 hcells hF4 HO HFr
        go_wp2_with (at_builtin; refine wpList_appT (t := 22) (by rfl) rfl rfl (unhide HRun) ?_)
        exact ⟨⟨i + 1, by omega, by go_num, by rw [unhide HP, List.length_append, List.length_replicate, bys_app, bys_rep]; exact unhide HO5, unhide HF5⟩, by simp [intOf]; omega⟩
      · obtain rfl : i = L.length := by omega
        rw [List.take_length] at hO
        obtain ⟨p, s, rfl⟩ := rof_slice hO
        have HO := hide hO
        have HFr := hide hFr
        have hsw := hFr.size
        clear hO hFr
        go_wp2_with fail
        go_ret
        exact ⟨spread L, p, s, k1, 0, rfl, unhide HL, fun _ => slc_own (unhide HO) (by decide) (fun g hg => by have := (World.ownsRow.lt (unhide HO) g hg).1; have := (unhide HF).size; omega), (unhide HC3).fr (unhide HFr) (by simp) (by simp), (unhide HM).fr (unhide HFr) (by simp), (unhide HF).thenL (unhide HFr) (by simp)⟩
  · have hne : (e2 != 0) = true := by simpa using he
    go_wp2_with fail
    go_ret
    exact ⟨[], none, 0, k1, e2, rfl, unhide hEq he, fun q => absurd q he, unhide HC3, unhide HM, unhide HF⟩
end
end Go.Proofs.YtjoonmpjcophnaaGreatDoor
namespace Go.Proofs.YtjoonmpjcophnaaGreatDoor
open Go.RowKit

section
variable {c : Nat} {a : Option Addr} {len cap k : Nat} {xs : List Int} {e : Int} {W : World} {sat : Bool}
theorem p_take2 {n : Nat} (h : Cs c a len cap xs k e W) (hb : n < 4294967296) : Calls Tryz.prog 76 #[.pointer (some ⟨c, 0, none⟩), .int .u32 (n : Int)] W fun r W' => ∃ x1 x2 x3 y k' e', r = .returned (.slice x1 x2 x3) ∧ Rd (rP n) xs k e y k' e' ∧ Sl W' x1 x2 x3 y ∧ Byt y ∧ y.length ≤ 7000 ∧ Cs c a len cap xs k' e' W' ∧ Fr [c] W W' := by
  have hby : Byt (lift (rP n) [] xs k e).1 := lift_byt h.2.2.2.1 n k e
  have hln : (lift (rP n) [] xs k e).1.length ≤ 7000 := by
    have h1 := h.2.1.1
    have h2 := h.2.2.2.2.2
    by_cases he : e = 0
    · subst he
      rw [lift_0]
      by_cases q : n ≤ (xs.drop k).length
      · rw [rP_ok q]
        show (List.take _ _).length ≤ _
        rw [List.length_take]
        rw [List.length_drop] at q ⊢
        omega
      · rw [rP_no q]
        exact Nat.zero_le _
    · rw [lift_e _ _ _ _ he]
      exact Nat.zero_le _
  exact (take_any h hb).mono (by rintro _ w ⟨x1, x2, x3, rfl, h1, hC, hF⟩; exact ⟨_, _, _, _, _, _, rfl, Rd.lift, h1.1, hby, hln, hC, hF⟩)
set_option maxHeartbeats 1000000 in
set_option maxRecDepth 100000 in
theorem new_own {x1 : Option Addr} {x2 x3 : Nat} {ys : List Int} {W : World} (h : Sl W x1 x2 x3 ys) (hl : x2 ≤ 7000) (hy : Byt ys) :
    Calls Tryz.prog 12 #[.slice x1 x2 x3] W fun r W' => ∃ c y1 y3, r = .returned (.pointer (some ⟨c, 0, none⟩)) ∧ Cs c y1 x2 y3 ys 0 0 W' ∧ W.heap.size ≤ c ∧ (∀ p, y1 = some p → 0 < x2 → W.heap.size ≤ p.block) ∧ Fr [] W W' := by
  have HC := hide (clone_any h hl)
  have HY := hide hy
  clear h hy
  go_enter Tryz.func12, Tryz.ntmps12
  go_wp2_with fail
  refine (unhide HC).mono ?_
  rintro _ w1 ⟨y1, y3, rfl, hN, hF⟩
  have HN := hide hN
  have HF := hide hF
  clear hN hF
  go_wp2_with fail
  go_ret
  refine ⟨w1.heap.size, y1, y3, rfl, ⟨⟨?_, ?_, ?_, ?_⟩, (unhide HN).1.below (below1 _ _), ?_, unhide HY, Nat.zero_le _, hl⟩, (unhide HF).size, (unhide HN).2, (unhide HF).alloc _⟩
  · simp [go_sem]
  · simp [go_sem]
  · simp [go_sem]
  · intro o ho
    have := (room_cells (cs := [.slice y1 x2 y3, .int .i64 0, .int .i64 0]) (t := 128) w1 3 (by simp)) o ho
    exact this.2
  · intro p hp h0
    have := (unhide HN).1.lt p hp h0
    omega
set_option maxHeartbeats 1000000 in
set_option maxRecDepth 100000 in
theorem p_failed (h : Cs c a len cap xs k e W) : Calls Tryz.prog 21 #[.agg #[.pointer (some ⟨c, 0, none⟩), .bool sat]] W fun r W' => r = .returned (.bool (e != 0)) ∧ Fr [] W W' := by
  have hb := below1 W (.cells #[.pointer (some ⟨c, 0, none⟩), .bool sat] 68)
  have HX := hide (err_any (h.bel hb))
  have HF := hide (Fr.of hb [])
  clear h hb
  go_enter Tryz.func21, Tryz.ntmps21
  go_wp2_with fail
  refine (unhide HX).mono ?_
  rintro _ w1 ⟨rfl, rfl⟩
  go_wp2_with fail
  go_ret
  exact ⟨rfl, unhide HF⟩
theorem rd_bytes {k k1 k2 : Nat} {e e1 e2 : Int} {n : Nat} {L : List Int} (h3 : Rd (rU 32) xs k e (n : Int) k1 e1) (h4 : Rd (rP n) xs k1 e1 L k2 e2) : Rd rBytes xs k e L k2 e2 := h3.bd (by rw [Int.toNat_natCast]; exact h4)
end
end Go.Proofs.YtjoonmpjcophnaaGreatDoor
namespace Go.Proofs.YtjoonmpjcophnaaGreatDoor
open Go.RowKit

theorem szP96 : (Tryz.prog.info? 96).map (·.size) = some 2 := by kernel_rfl
theorem mkP96 (m : Nat) (hm : m ≤ 4096) : ∃ Z : Array Value, ∀ w, (Instr.makeSlice 24 (.int .i64 (m : Int)) (.int .i64 (m : Int))).run Tryz.prog w = .ok (.slice (some ⟨w.heap.size, 0, none⟩) m m) (w.alloc (.cells (madeCells Z (m * 2)) 96)) :=
  ⟨_, fun w => make_runK 24 96 2 Tryz.underlying24 (i := (Tryz.prog.info? 96).getD default) (z := (((Tryz.prog.info? 96).getD default).zero).getD default) (by kernel_rfl) (by kernel_rfl) (by kernel_rfl) (by kernel_rfl) m hm w⟩
section
variable {c : Nat} {a : Option Addr} {len cap k : Nat} {xs : List Int} {e : Int} {W : World} {sat : Bool} {q : Nat}
set_option maxHeartbeats 4000000 in
set_option maxRecDepth 100000 in
theorem list106_any {J : World → Prop} (h : Cs c a len cap xs k e W) (hJ : J W) (HJ : ∀ w w' l, J w → Fr l w w' → (∀ i ∈ l, i = c ∨ W.heap.size ≤ i) → J w')
    (HO : ∀ k e w, W.heap.size ≤ w.heap.size → Cs c a len cap xs k e w → J w → Calls Tryz.prog 107 #[.pointer (some ⟨c, 0, none⟩)] w fun r w' => ∃ y cs k' e', r = .returned (.agg cs.toArray) ∧ Rd rFunc xs k e y k' e' ∧ eTy.rep' w' (fun b => w.heap.size ≤ b) e' y cs ∧ Cs c a len cap xs k' e' w' ∧ J w' ∧ Fr [c] w w') :
    Calls Tryz.prog 106 #[.pointer (some ⟨c, 0, none⟩), .func (.func 107) #[.pointer (some ⟨c, 0, none⟩)] #[]] W fun r W' => ∃ L g k' e', r = .returned (.slice (some ⟨g, 0, none⟩) L.length L.length) ∧ Rd (rList rFunc) xs k e L k' e' ∧ (e' = 0 → Sls eTy W' (fun b => W.heap.size ≤ b) L (.slice (some ⟨g, 0, none⟩) L.length L.length)) ∧ Cs c a len cap xs k' e' W' ∧ J W' ∧ Fr [c] W W' := by
  have HX := hide (p_count h)
  have hcl := h.1.lt
  have HAl : Hid (∀ p, a = some p → 0 < len → p.block < W.heap.size) := hide h.2.1.lt
  have HJ0 := hide hJ
  have HJs := hide HJ
  have HOs := hide HO
  clear h hJ HJ HO
  go_enter Tryz.func106, Tryz.ntmps106
  go_wp2_with fail
  refine (unhide HX).mono ?_
  rintro _ w1 ⟨m, k1, e1, rfl, hD, hm, hC, hF⟩
  have HD := hide hD
  have HC := hide hC
  have HF := hide hF
  have hsz := hF.size
  have HJ1 := hide ((unhide HJs) _ _ _ (unhide HJ0) hF (by simp))
  clear hD hC hF HX HJ0
  obtain ⟨Z, hmk⟩ := mkP96 m hm
  go_wp2_with fail
  clear hmk
  have hb := below1 w1 (.cells (madeCells Z (m * 2)) 96)
  have HM := hide (Prw.made (E := eTy) w1 m W.heap.size Z 96 e1 hsz)
  change Hid (Prw eTy w1.heap.size m W.heap.size [] e1 (w1.alloc (.cells (madeCells Z (m * 2)) 96))) at HM
  have HC := hide ((unhide HC).bel hb)
  have HF := hide ((unhide HF).bel hb)
  have HJ1 := hide ((unhide HJs) _ _ _ (unhide HJ1) (Fr.of hb []) (by simp))
  have hsz2 : (w1.alloc (.cells (madeCells Z (m * 2)) 96)).heap.size = w1.heap.size + 1 := by simp
  clear hb
  generalize w1.alloc (.cells (madeCells Z (m * 2)) 96) = w2 at *
  go_loopw [12] (fun v12 wr => ∃ (L : List _) (k2 : Nat) (e2 : Int), L.length ≤ m ∧ v12 = .int .i64 (L.length : Int) ∧ Prw eTy w1.heap.size m W.heap.size L e2 wr ∧ Cs c a len cap xs k2 e2 wr ∧ J wr ∧ Fr [c] W wr ∧ w1.heap.size < wr.heap.size ∧ (∀ s k' e', Rd (repR rFunc (m - L.length)) xs k2 e2 s k' e' → Rd (rList rFunc) xs k e (id (L ++ s)) k' e')) (fun v12 _ => m - (intOf v12).toNat)
  case atStart =>
    refine ⟨[], k1, e1, Nat.zero_le _, rfl, unhide HM, unhide HC, unhide HJ1, unhide HF, by omega, fun s k' e' hs => (unhide HD).bd ?_⟩
    rw [show ((m : Int)).toNat = m by omega]
    exact hs
  case round =>
    obtain ⟨L, k2, e2, hi, rfl, hP, hC, hJ, hF, hlg, hK⟩ := hrel
    clear HM HC HJ1 HF HD
    by_cases hlt : L.length < m
    · have hi' : (L.length : Int) < (m : Int) := by omega
      have HX := hide (unhide HOs k2 e2 _ hF.size hC hJ)
      have HP := hide hP
      have HF := hide hF
      have HK := hide hK
      clear hP hC hJ hF hK
      go_wp2_with fail
      refine (unhide HX).mono ?_
      rintro _ w3 ⟨y, cs, k3, e3, rfl, hD, hy, hC, hJ, hF2⟩
      have hsz3 := hF2.size
      have hsW := (unhide HF).size
      have h0 := hD.zero
      have HP2 := hide ((unhide HP).fr hF2 (by simp; omega) (by simp; omega) h0)
      have HF3 := hide ((unhide HF).trans hF2)
      have HKn := hide (Rd.more2 id (n := m - (L.length + 1)) (by rw [show m - (L.length + 1) + 1 = m - L.length by omega]; exact unhide HK) hD)
      have hcl2 : cs.length = 2 := hy.len
      have hone := hy.one
      have HY := hide hy
      have HC2 := hide hC
      have HJ2 := hide hJ
      clear hD hy hC hJ hF2 HX HP HF HK
      go_wp2_with ((refine wpList_storeA rfl 96 (.tmp 19) (.tmp 18) rfl rfl (g := w1.heap.size) (off := L.length * 2) (cs := cs) rfl rfl (by rw [hcl2]; exact szP96) (fun j hj => (unhide HP2).spare hlt (show j < 2 by omega)) hone ?_))
      have hFg := fr_cells w1.heap.size cs (L.length * 2) w3
      have hl1 : (L ++ [y]).length = L.length + 1 := by simp
      refine ⟨⟨L ++ [y], k3, e3, by omega, by rw [hl1]; go_num, (unhide HP2).put hlt hcl2 (fun q => q) (fun q => (unhide HY).rep q (fun b _ hb => ⟨by omega, by omega⟩)), (unhide HC2).fr hFg (by simp; omega) (fun p hp hl => by have := unhide HAl p hp hl; simp; omega), unhide HJs _ _ _ (unhide HJ2) hFg (by simp; omega), (unhide HF3).thenL hFg (by simp; omega), by have := hFg.size; omega, by rw [hl1]; exact unhide HKn⟩, by simp [intOf]; omega⟩
    · obtain rfl : m = L.length := by omega
      have HP := hide hP
      have HC := hide hC
      have HJ2 := hide hJ
      have HF := hide hF
      have HK := hide (Rd.fin id hK (.inl (by omega)))
      clear hP hC hF hJ hK
      go_wp2_with fail
      go_ret
      exact ⟨L, w1.heap.size, k2, e2, rfl, unhide HK, fun q => by subst q; exact (unhide HP).sls, unhide HC, unhide HJ2, unhide HF⟩
end
end Go.Proofs.YtjoonmpjcophnaaGreatDoor
namespace Go.Proofs.YtjoonmpjcophnaaGreatDoor
open Go.RowKit

section
variable {c : Nat} {a : Option Addr} {len cap k : Nat} {xs : List Int} {e : Int} {W : World} {sat : Bool}
set_option maxHeartbeats 4000000 in
set_option maxRecDepth 100000 in
theorem sub78_any (h : Cs c a len cap xs k e W) (hm : Mk W) (hc : 4 ≤ c) : Calls Tryz.prog 78 #[.agg #[.pointer (some ⟨c, 0, none⟩), .bool sat]] W fun r W' => ∃ L g k' e', r = .returned (.slice (some ⟨g, 0, none⟩) L.length L.length) ∧ Rd (rList rFunc) xs k e L k' e' ∧ (e' = 0 → Sls eTy W' (fun b => W.heap.size ≤ b) L (.slice (some ⟨g, 0, none⟩) L.length L.length)) ∧ Cs c a len cap xs k' e' W' ∧ Mk W' ∧ Fr [c] W W' := by
  have hcl := h.1.lt
  have hb := below1 W (.cells #[.pointer (some ⟨c, 0, none⟩), .bool sat] 68)
  have HV := vr_new [.pointer (some ⟨c, 0, none⟩), .bool sat] 68 W
  have hq : W.heap.size < (W.alloc (.cells #[.pointer (some ⟨c, 0, none⟩), .bool sat] 68)).heap.size := by simp
  have hB : Tab (W.alloc (.cells #[.pointer (some ⟨c, 0, none⟩), .bool sat] 68)) W.heap.size [.pointer (some ⟨c, 0, none⟩), .bool sat] := HV.tab
  have HF0 := hide (Fr.of hb [c])
  have HX := hide (list106_any (h.bel hb) (J := fun w => Mk w ∧ Tab w W.heap.size [.pointer (some ⟨c, 0, none⟩), .bool sat] ∧ W.heap.size < w.heap.size) ⟨hm.below hb, hB, hq⟩ (fun w w' l hJ hf hl => ⟨hJ.1.fr hf (fun i hi => by rcases hl i hi with q | q <;> omega), hJ.2.1.fr hf (fun hi => by rcases hl _ hi with q | q <;> omega), Nat.lt_of_lt_of_le hJ.2.2 hf.size⟩)
    (fun k e w hw hC hJ => (p_func hC).mono (by rintro _ w' ⟨y, v1, v2, k1, e1, rfl, hD, hR, hC2, hF⟩; exact ⟨y, [v1, v2], k1, e1, rfl, hD, El.rep'.of hR _, hC2, ⟨hJ.1.fr hF (by simp; omega), hJ.2.1.fr hF (by simp; omega), Nat.lt_of_lt_of_le hJ.2.2 hF.size⟩, hF⟩)))
  clear h hm hb HV hB
  go_enter Tryz.func78, Tryz.ntmps78
  go_wp2_with fail
  refine (unhide HX).mono ?_
  rintro _ w1 ⟨L, g, k1, e1, rfl, hD, hS, hC, hJ, hF⟩
  have HD := hide hD
  have HS := hide hS
  have HC := hide hC
  have HM := hide hJ.1
  have HF := hide ((unhide HF0).trans hF)
  clear hD hS hC hJ hF
  go_wp2_with fail
  go_ret
  exact ⟨L, g, k1, e1, rfl, unhide HD, fun q => (unhide HS q).mono (fun b _ hb => by omega), unhide HC, unhide HM, unhide HF⟩
end
end Go.Proofs.YtjoonmpjcophnaaGreatDoor
namespace Go.Proofs.YtjoonmpjcophnaaGreatDoor
open Go.RowKit

theorem szP103 : (Tryz.prog.info? 103).map (·.size) = some 9 := by kernel_rfl
theorem mkP103 (m : Nat) (hm : m ≤ 4096) : ∃ Z : Array Value, ∀ w, (Instr.makeSlice 25 (.int .i64 (m : Int)) (.int .i64 (m : Int))).run Tryz.prog w = .ok (.slice (some ⟨w.heap.size, 0, none⟩) m m) (w.alloc (.cells (madeCells Z (m * 9)) 103)) :=
  ⟨_, fun w => make_runK 25 103 9 Tryz.underlying25 (i := (Tryz.prog.info? 103).getD default) (z := (((Tryz.prog.info? 103).getD default).zero).getD default) (by kernel_rfl) (by kernel_rfl) (by kernel_rfl) (by kernel_rfl) m hm w⟩
section
variable {c : Nat} {a : Option Addr} {len cap k : Nat} {xs : List Int} {e : Int} {W : World} {sat : Bool} {q : Nat}
set_option maxHeartbeats 4000000 in
set_option maxRecDepth 100000 in
theorem list108_any {J : World → Prop} (h : Cs c a len cap xs k e W) (hJ : J W) (HJ : ∀ w w' l, J w → Fr l w w' → (∀ i ∈ l, i = c ∨ W.heap.size ≤ i) → J w')
    (HO : ∀ k e w, W.heap.size ≤ w.heap.size → Cs c a len cap xs k e w → J w → Calls Tryz.prog 109 #[.pointer (some ⟨q, 0, none⟩)] w fun r w' => ∃ y cs k' e', r = .returned (.agg cs.toArray) ∧ Rd rImp xs k e y k' e' ∧ eIm.rep' w' (fun b => w.heap.size ≤ b) e' y cs ∧ Cs c a len cap xs k' e' w' ∧ J w' ∧ Fr [c] w w') :
    Calls Tryz.prog 108 #[.pointer (some ⟨c, 0, none⟩), .func (.func 109) #[] #[.pointer (some ⟨q, 0, none⟩)]] W fun r W' => ∃ L g k' e', r = .returned (.slice (some ⟨g, 0, none⟩) L.length L.length) ∧ Rd (rList rImp) xs k e L k' e' ∧ (e' = 0 → Sls eIm W' (fun b => W.heap.size ≤ b) L (.slice (some ⟨g, 0, none⟩) L.length L.length)) ∧ Cs c a len cap xs k' e' W' ∧ J W' ∧ Fr [c] W W' := by
  have HX := hide (p_count h)
  have hcl := h.1.lt
  have HAl : Hid (∀ p, a = some p → 0 < len → p.block < W.heap.size) := hide h.2.1.lt
  have HJ0 := hide hJ
  have HJs := hide HJ
  have HOs := hide HO
  clear h hJ HJ HO
  go_enter Tryz.func108, Tryz.ntmps108
  go_wp2_with fail
  refine (unhide HX).mono ?_
  rintro _ w1 ⟨m, k1, e1, rfl, hD, hm, hC, hF⟩
  have HD := hide hD
  have HC := hide hC
  have HF := hide hF
  have hsz := hF.size
  have HJ1 := hide ((unhide HJs) _ _ _ (unhide HJ0) hF (by simp))
  clear hD hC hF HX HJ0
  obtain ⟨Z, hmk⟩ := mkP103 m hm
  go_wp2_with fail
  clear hmk
  have hb := below1 w1 (.cells (madeCells Z (m * 9)) 103)
  have HM := hide (Prw.made (E := eIm) w1 m W.heap.size Z 103 e1 hsz)
  change Hid (Prw eIm w1.heap.size m W.heap.size [] e1 (w1.alloc (.cells (madeCells Z (m * 9)) 103))) at HM
  have HC := hide ((unhide HC).bel hb)
  have HF := hide ((unhide HF).bel hb)
  have HJ1 := hide ((unhide HJs) _ _ _ (unhide HJ1) (Fr.of hb []) (by simp))
  have hsz2 : (w1.alloc (.cells (madeCells Z (m * 9)) 103)).heap.size = w1.heap.size + 1 := by simp
  clear hb
  generalize w1.alloc (.cells (madeCells Z (m * 9)) 103) = w2 at *
  go_loopw [12] (fun v12 wr => ∃ (L : List _) (k2 : Nat) (e2 : Int), L.length ≤ m ∧ v12 = .int .i64 (L.length : Int) ∧ Prw eIm w1.heap.size m W.heap.size L e2 wr ∧ Cs c a len cap xs k2 e2 wr ∧ J wr ∧ Fr [c] W wr ∧ w1.heap.size < wr.heap.size ∧ (∀ s k' e', Rd (repR rImp (m - L.length)) xs k2 e2 s k' e' → Rd (rList rImp) xs k e (id (L ++ s)) k' e')) (fun v12 _ => m - (intOf v12).toNat)
  case atStart =>
    refine ⟨[], k1, e1, Nat.zero_le _, rfl, unhide HM, unhide HC, unhide HJ1, unhide HF, by omega, fun s k' e' hs => (unhide HD).bd ?_⟩
    rw [show ((m : Int)).toNat = m by omega]
    exact hs
  case round =>
    obtain ⟨L, k2, e2, hi, rfl, hP, hC, hJ, hF, hlg, hK⟩ := hrel
    clear HM HC HJ1 HF HD
    by_cases hlt : L.length < m
    · have hi' : (L.length : Int) < (m : Int) := by omega
      have HX := hide (unhide HOs k2 e2 _ hF.size hC hJ)
      have HP := hide hP
      have HF := hide hF
      have HK := hide hK
      clear hP hC hJ hF hK
      go_wp2_with fail
      refine (unhide HX).mono ?_
      rintro _ w3 ⟨y, cs, k3, e3, rfl, hD, hy, hC, hJ, hF2⟩
      have hsz3 := hF2.size
      have hsW := (unhide HF).size
      have h0 := hD.zero
      have HP2 := hide ((unhide HP).fr hF2 (by simp; omega) (by simp; omega) h0)
      have HF3 := hide ((unhide HF).trans hF2)
      have HKn := hide (Rd.more2 id (n := m - (L.length + 1)) (by rw [show m - (L.length + 1) + 1 = m - L.length by omega]; exact unhide HK) hD)
      have hcl2 : cs.length = 9 := hy.len
      have hone := hy.one
      have HY := hide hy
      have HC2 := hide hC
      have HJ2 := hide hJ
      clear hD hy hC hJ hF2 HX HP HF HK
      go_wp2_with ((refine wpList_storeA rfl 103 (.tmp 19) (.tmp 18) rfl rfl (g := w1.heap.size) (off := L.length * 9) (cs := cs) rfl rfl (by rw [hcl2]; exact szP103) (fun j hj => (unhide HP2).spare hlt (show j < 9 by omega)) hone ?_))
      have hFg := fr_cells w1.heap.size cs (L.length * 9) w3
      have hl1 : (L ++ [y]).length = L.length + 1 := by simp
      refine ⟨⟨L ++ [y], k3, e3, by omega, by rw [hl1]; go_num, (unhide HP2).put hlt hcl2 (fun q => q) (fun q => (unhide HY).rep q (fun b _ hb => ⟨by omega, by omega⟩)), (unhide HC2).fr hFg (by simp; omega) (fun p hp hl => by have := unhide HAl p hp hl; simp; omega), unhide HJs _ _ _ (unhide HJ2) hFg (by simp; omega), (unhide HF3).thenL hFg (by simp; omega), by have := hFg.size; omega, by rw [hl1]; exact unhide HKn⟩, by simp [intOf]; omega⟩
    · obtain rfl : m = L.length := by omega
      have HP := hide hP
      have HC := hide hC
      have HJ2 := hide hJ
      have HF := hide hF
      have HK := hide (Rd.fin id hK (.inl (by omega)))
      clear hP hC hF hJ hK
      go_wp2_with fail
      go_ret
      exact ⟨L, w1.heap.size, k2, e2, rfl, unhide HK, fun q => by subst q; exact (unhide HP).sls, unhide HC, unhide HJ2, unhide HF⟩
end
end Go.Proofs.YtjoonmpjcophnaaGreatDoor
namespace Go.Proofs.YtjoonmpjcophnaaGreatDoor
open Go.RowKit

section
variable {c : Nat} {a : Option Addr} {len cap k : Nat} {xs : List Int} {e : Int} {W : World} {sat : Bool}
set_option maxHeartbeats 4000000 in
set_option maxRecDepth 100000 in
theorem sub79_any (h : Cs c a len cap xs k e W) (hm : Mk W) (hc : 4 ≤ c) : Calls Tryz.prog 79 #[.agg #[.pointer (some ⟨c, 0, none⟩), .bool sat]] W fun r W' => ∃ L g k' e', r = .returned (.slice (some ⟨g, 0, none⟩) L.length L.length) ∧ Rd (rList rImp) xs k e L k' e' ∧ (e' = 0 → Sls eIm W' (fun b => W.heap.size ≤ b) L (.slice (some ⟨g, 0, none⟩) L.length L.length)) ∧ Cs c a len cap xs k' e' W' ∧ Mk W' ∧ Fr [c] W W' := by
  have hcl := h.1.lt
  have hb := below1 W (.cells #[.pointer (some ⟨c, 0, none⟩), .bool sat] 68)
  have HV := vr_new [.pointer (some ⟨c, 0, none⟩), .bool sat] 68 W
  have hq : W.heap.size < (W.alloc (.cells #[.pointer (some ⟨c, 0, none⟩), .bool sat] 68)).heap.size := by simp
  have hB : Tab (W.alloc (.cells #[.pointer (some ⟨c, 0, none⟩), .bool sat] 68)) W.heap.size [.pointer (some ⟨c, 0, none⟩), .bool sat] := HV.tab
  have HF0 := hide (Fr.of hb [c])
  have HX := hide (list108_any (q := W.heap.size) (h.bel hb) (J := fun w => Mk w ∧ Tab w W.heap.size [.pointer (some ⟨c, 0, none⟩), .bool sat] ∧ W.heap.size < w.heap.size) ⟨hm.below hb, hB, hq⟩ (fun w w' l hJ hf hl => ⟨hJ.1.fr hf (fun i hi => by rcases hl i hi with q | q <;> omega), hJ.2.1.fr hf (fun hi => by rcases hl _ hi with q | q <;> omega), Nat.lt_of_lt_of_le hJ.2.2 hf.size⟩)
    (fun k e w hw hC hJ => (clos109_any hC hJ.1 hc hJ.2.1 hJ.2.2 (by omega)).mono (by rintro _ w' ⟨y, cs, k1, e1, rfl, hD, hR, hC2, hM2, hB2, hF⟩; exact ⟨y, cs, k1, e1, rfl, hD, hR, hC2, ⟨hM2, hB2, Nat.lt_of_lt_of_le hJ.2.2 hF.size⟩, hF⟩)))
  clear h hm hb HV hB
  go_enter Tryz.func79, Tryz.ntmps79
  go_wp2_with fail
  refine (unhide HX).mono ?_
  rintro _ w1 ⟨L, g, k1, e1, rfl, hD, hS, hC, hJ, hF⟩
  have HD := hide hD
  have HS := hide hS
  have HC := hide hC
  have HM := hide hJ.1
  have HF := hide ((unhide HF0).trans hF)
  clear hD hS hC hJ hF
  go_wp2_with fail
  go_ret
  exact ⟨L, g, k1, e1, rfl, unhide HD, fun q => (unhide HS q).mono (fun b _ hb => by omega), unhide HC, unhide HM, unhide HF⟩
end
end Go.Proofs.YtjoonmpjcophnaaGreatDoor
namespace Go.Proofs.YtjoonmpjcophnaaGreatDoor
open Go.RowKit

theorem mkP30 (m : Nat) (hm : m ≤ 4096) : ∃ Z : Array Value, ∀ w, (Instr.makeSlice 69 (.int .i64 (m : Int)) (.int .i64 (m : Int))).run Tryz.prog w = .ok (.slice (some ⟨w.heap.size, 0, none⟩) m m) (w.alloc (.cells (madeCells Z (m)) 30)) :=
  ⟨_, fun w => by have h := make_runK 69 30 1 Tryz.underlying69 (i := (Tryz.prog.info? 30).getD default) (z := (((Tryz.prog.info? 30).getD default).zero).getD default) (by kernel_rfl) (by kernel_rfl) (by kernel_rfl) (by kernel_rfl) m hm w; rw [Nat.mul_one] at h; exact h⟩
section
variable {c : Nat} {a : Option Addr} {len cap k : Nat} {xs : List Int} {e : Int} {W : World} {sat : Bool} {q : Nat}
set_option maxHeartbeats 4000000 in
set_option maxRecDepth 100000 in
theorem list114_any {J : World → Prop} (h : Cs c a len cap xs k e W) (hJ : J W) (HJ : ∀ w w' l, J w → Fr l w w' → (∀ i ∈ l, i = c ∨ W.heap.size ≤ i) → J w')
    (HO : ∀ k e w, W.heap.size ≤ w.heap.size → Cs c a len cap xs k e w → J w → Calls Tryz.prog 38 #[.pointer (some ⟨c, 0, none⟩)] w fun r w' => ∃ y cs k' e', (r = .returned (.int .u32 y) ∧ cs = [.int .u32 y]) ∧ Rd (rU 32) xs k e y k' e' ∧ eU.rep' w' (fun b => w.heap.size ≤ b) 0 y cs ∧ Cs c a len cap xs k' e' w' ∧ J w' ∧ Fr [c] w w') :
    Calls Tryz.prog 114 #[.pointer (some ⟨c, 0, none⟩), .func (.func 38) #[.pointer (some ⟨c, 0, none⟩)] #[]] W fun r W' => ∃ L g k' e', r = .returned (.slice (some ⟨g, 0, none⟩) L.length L.length) ∧ Rd (rList (rU 32)) xs k e L k' e' ∧ Sls eU W' (fun b => W.heap.size ≤ b) L (.slice (some ⟨g, 0, none⟩) L.length L.length) ∧ L.length ≤ 4096 ∧ Cs c a len cap xs k' e' W' ∧ J W' ∧ Fr [c] W W' := by
  have HX := hide (p_count h)
  have hcl := h.1.lt
  have HAl : Hid (∀ p, a = some p → 0 < len → p.block < W.heap.size) := hide h.2.1.lt
  have HJ0 := hide hJ
  have HJs := hide HJ
  have HOs := hide HO
  clear h hJ HJ HO
  go_enter Tryz.func114, Tryz.ntmps114
  go_wp2_with fail
  refine (unhide HX).mono ?_
  rintro _ w1 ⟨m, k1, e1, rfl, hD, hm, hC, hF⟩
  have HD := hide hD
  have HC := hide hC
  have HF := hide hF
  have hsz := hF.size
  have HJ1 := hide ((unhide HJs) _ _ _ (unhide HJ0) hF (by simp))
  clear hD hC hF HX HJ0
  obtain ⟨Z, hmk⟩ := mkP30 m hm
  go_wp2_with fail
  clear hmk
  have hb := below1 w1 (.cells (madeCells Z (m)) 30)
  have HM := hide (Prw.made (E := eU) w1 m W.heap.size Z 30 0 hsz)
  rw [show m * eU.k = m from Nat.mul_one m] at HM
  change Hid (Prw eU w1.heap.size m W.heap.size [] 0 (w1.alloc (.cells (madeCells Z (m)) 30))) at HM
  have HC := hide ((unhide HC).bel hb)
  have HF := hide ((unhide HF).bel hb)
  have HJ1 := hide ((unhide HJs) _ _ _ (unhide HJ1) (Fr.of hb []) (by simp))
  have hsz2 : (w1.alloc (.cells (madeCells Z (m)) 30)).heap.size = w1.heap.size + 1 := by simp
  clear hb
  generalize w1.alloc (.cells (madeCells Z (m)) 30) = w2 at *
  go_loopw [12] (fun v12 wr => ∃ (L : List _) (k2 : Nat) (e2 : Int), L.length ≤ m ∧ v12 = .int .i64 (L.length : Int) ∧ Prw eU w1.heap.size m W.heap.size L 0 wr ∧ Cs c a len cap xs k2 e2 wr ∧ J wr ∧ Fr [c] W wr ∧ w1.heap.size < wr.heap.size ∧ (∀ s k' e', Rd (repR (rU 32) (m - L.length)) xs k2 e2 s k' e' → Rd (rList (rU 32)) xs k e (id (L ++ s)) k' e')) (fun v12 _ => m - (intOf v12).toNat)
  case atStart =>
    refine ⟨[], k1, e1, Nat.zero_le _, rfl, unhide HM, unhide HC, unhide HJ1, unhide HF, by omega, fun s k' e' hs => (unhide HD).bd ?_⟩
    rw [show ((m : Int)).toNat = m by omega]
    exact hs
  case round =>
    obtain ⟨L, k2, e2, hi, rfl, hP, hC, hJ, hF, hlg, hK⟩ := hrel
    clear HM HC HJ1 HF HD
    by_cases hlt : L.length < m
    · have hi' : (L.length : Int) < (m : Int) := by omega
      have HX := hide (unhide HOs k2 e2 _ hF.size hC hJ)
      have HP := hide hP
      have HF := hide hF
      have HK := hide hK
      clear hP hC hJ hF hK
      go_wp2_with fail
      refine (unhide HX).mono ?_
      rintro _ w3 ⟨y, cs, k3, e3, ⟨rfl, rfl⟩, hD, hy, hC, hJ, hF2⟩
      have hsz3 := hF2.size
      have hsW := (unhide HF).size
      have HP2 := hide ((unhide HP).fr hF2 (by simp; omega) (by simp; omega) (fun q => q))
      have HF3 := hide ((unhide HF).trans hF2)
      have HKn := hide (Rd.more2 id (n := m - (L.length + 1)) (by rw [show m - (L.length + 1) + 1 = m - L.length by omega]; exact unhide HK) hD)
      have hcl2 : ([.int .u32 y] : List Value).length = 1 := hy.len
      have hone := hy.one
      have HY := hide hy
      have HC2 := hide hC
      have HJ2 := hide hJ
      clear hD hy hC hJ hF2 HX HP HF HK
      obtain ⟨⟨u0, r0⟩, g0⟩ := (unhide HP2).spare hlt (j := 0) (show 0 < 1 by omega)
      have r0 : w3.cell? ⟨w1.heap.size, L.length, none⟩ = some u0 := by rw [← r0]; congr 2; exact (Nat.mul_one _).symm
      have g0 : w3.frozen? ⟨w1.heap.size, L.length, none⟩ = false := by rw [← g0]; congr 2; exact (Nat.mul_one _).symm
      go_wp2_with fail
      clear r0 g0
      have hFg : Fr [w1.heap.size] w3 (w3.setCell ⟨w1.heap.size, L.length, none⟩ (.int .u32 y)) := (Fr.refl _ _).place _ _
      have hPn := (unhide HP2).put hlt hcl2 (fun q => q) (fun q => (unhide HY).rep q (fun b _ hb => ⟨by omega, by omega⟩))
      rw [show L.length * eU.k = L.length from Nat.mul_one _] at hPn
      have hl1 : (L ++ [y]).length = L.length + 1 := by simp
      refine ⟨⟨L ++ [y], k3, e3, by omega, by rw [hl1]; go_num, hPn, (unhide HC2).fr hFg (by simp; omega) (fun p hp hl => by have := unhide HAl p hp hl; simp; omega), unhide HJs _ _ _ (unhide HJ2) hFg (by simp; omega), (unhide HF3).thenL hFg (by simp; omega), by have := hFg.size; omega, by rw [hl1]; exact unhide HKn⟩, by simp [intOf]; omega⟩
    · obtain rfl : m = L.length := by omega
      have HP := hide hP
      have HC := hide hC
      have HJ2 := hide hJ
      have HF := hide hF
      have HK := hide (Rd.fin id hK (.inl (by omega)))
      clear hP hC hF hJ hK
      go_wp2_with fail
      go_ret
      exact ⟨L, w1.heap.size, k2, e2, rfl, unhide HK, (unhide HP).sls, hm, unhide HC, unhide HJ2, unhide HF⟩
end
end Go.Proofs.YtjoonmpjcophnaaGreatDoor
namespace Go.Proofs.YtjoonmpjcophnaaGreatDoor
open Go.RowKit

section
variable {c : Nat} {a : Option Addr} {len cap k : Nat} {xs : List Int} {e : Int} {W : World} {sat : Bool}
set_option maxHeartbeats 4000000 in
set_option maxRecDepth 100000 in
theorem sub80_any (h : Cs c a len cap xs k e W) (hm : Mk W) (hc : 4 ≤ c) : Calls Tryz.prog 80 #[.agg #[.pointer (some ⟨c, 0, none⟩), .bool sat]] W fun r W' => ∃ L g k' e', r = .returned (.slice (some ⟨g, 0, none⟩) L.length L.length) ∧ Rd (rList (rU 32)) xs k e L k' e' ∧ Sls eU W' (fun b => W.heap.size ≤ b) L (.slice (some ⟨g, 0, none⟩) L.length L.length) ∧ L.length ≤ 4096 ∧ Cs c a len cap xs k' e' W' ∧ Mk W' ∧ Fr [c] W W' := by
  have hcl := h.1.lt
  have hb := below1 W (.cells #[.pointer (some ⟨c, 0, none⟩), .bool sat] 68)
  have HV := vr_new [.pointer (some ⟨c, 0, none⟩), .bool sat] 68 W
  have hq : W.heap.size < (W.alloc (.cells #[.pointer (some ⟨c, 0, none⟩), .bool sat] 68)).heap.size := by simp
  have hB : Tab (W.alloc (.cells #[.pointer (some ⟨c, 0, none⟩), .bool sat] 68)) W.heap.size [.pointer (some ⟨c, 0, none⟩), .bool sat] := HV.tab
  have HF0 := hide (Fr.of hb [c])
  have HX := hide (list114_any (h.bel hb) (J := fun w => Mk w ∧ Tab w W.heap.size [.pointer (some ⟨c, 0, none⟩), .bool sat] ∧ W.heap.size < w.heap.size) ⟨hm.below hb, hB, hq⟩ (fun w w' l hJ hf hl => ⟨hJ.1.fr hf (fun i hi => by rcases hl i hi with q | q <;> omega), hJ.2.1.fr hf (fun hi => by rcases hl _ hi with q | q <;> omega), Nat.lt_of_lt_of_le hJ.2.2 hf.size⟩)
    (fun k e w hw hC hJ => (p_u32 hC).mono (by rintro _ w' ⟨y, k1, e1, rfl, hD, -, hC2, hF⟩; exact ⟨y, [.int .u32 y], k1, e1, ⟨rfl, rfl⟩, hD, El.rep'.of rfl _, hC2, ⟨hJ.1.fr hF (by simp; omega), hJ.2.1.fr hF (by simp; omega), Nat.lt_of_lt_of_le hJ.2.2 hF.size⟩, hF⟩)))
  clear h hm hb HV hB
  go_enter Tryz.func80, Tryz.ntmps80
  go_wp2_with fail
  refine (unhide HX).mono ?_
  rintro _ w1 ⟨L, g, k1, e1, rfl, hD, hS, hlen, hC, hJ, hF⟩
  have HD := hide hD
  have HS := hide hS
  have HC := hide hC
  have HM := hide hJ.1
  have HF := hide ((unhide HF0).trans hF)
  clear hD hS hC hJ hF
  go_wp2_with fail
  go_ret
  exact ⟨L, g, k1, e1, rfl, unhide HD, (unhide HS).mono (fun b _ hb => by omega), hlen, unhide HC, unhide HM, unhide HF⟩
end
end Go.Proofs.YtjoonmpjcophnaaGreatDoor
namespace Go.Proofs.YtjoonmpjcophnaaGreatDoor
open Go.RowKit

theorem szP99 : (Tryz.prog.info? 99).map (·.size) = some 3 := by kernel_rfl
theorem mkP99 (m : Nat) (hm : m ≤ 4096) : ∃ Z : Array Value, ∀ w, (Instr.makeSlice 27 (.int .i64 (m : Int)) (.int .i64 (m : Int))).run Tryz.prog w = .ok (.slice (some ⟨w.heap.size, 0, none⟩) m m) (w.alloc (.cells (madeCells Z (m * 3)) 99)) :=
  ⟨_, fun w => make_runK 27 99 3 Tryz.underlying27 (i := (Tryz.prog.info? 99).getD default) (z := (((Tryz.prog.info? 99).getD default).zero).getD default) (by kernel_rfl) (by kernel_rfl) (by kernel_rfl) (by kernel_rfl) m hm w⟩
section
variable {c : Nat} {a : Option Addr} {len cap k : Nat} {xs : List Int} {e : Int} {W : World} {sat : Bool} {q : Nat}
set_option maxHeartbeats 4000000 in
set_option maxRecDepth 100000 in
theorem list115_any {J : World → Prop} (h : Cs c a len cap xs k e W) (hJ : J W) (HJ : ∀ w w' l, J w → Fr l w w' → (∀ i ∈ l, i = c ∨ W.heap.size ≤ i) → J w')
    (HO : ∀ k e w, W.heap.size ≤ w.heap.size → Cs c a len cap xs k e w → J w → Calls Tryz.prog 111 #[.pointer (some ⟨c, 0, none⟩)] w fun r w' => ∃ y cs k' e', r = .returned (.agg cs.toArray) ∧ Rd rTable xs k e y k' e' ∧ eLim.rep' w' (fun b => w.heap.size ≤ b) e' y cs ∧ Cs c a len cap xs k' e' w' ∧ J w' ∧ Fr [c] w w') :
    Calls Tryz.prog 115 #[.pointer (some ⟨c, 0, none⟩), .func (.func 111) #[.pointer (some ⟨c, 0, none⟩)] #[]] W fun r W' => ∃ L g k' e', r = .returned (.slice (some ⟨g, 0, none⟩) L.length L.length) ∧ Rd (rList rTable) xs k e L k' e' ∧ (e' = 0 → Sls eLim W' (fun b => W.heap.size ≤ b) L (.slice (some ⟨g, 0, none⟩) L.length L.length)) ∧ Cs c a len cap xs k' e' W' ∧ J W' ∧ Fr [c] W W' := by
  have HX := hide (p_count h)
  have hcl := h.1.lt
  have HAl : Hid (∀ p, a = some p → 0 < len → p.block < W.heap.size) := hide h.2.1.lt
  have HJ0 := hide hJ
  have HJs := hide HJ
  have HOs := hide HO
  clear h hJ HJ HO
  go_enter Tryz.func115, Tryz.ntmps115
  go_wp2_with fail
  refine (unhide HX).mono ?_
  rintro _ w1 ⟨m, k1, e1, rfl, hD, hm, hC, hF⟩
  have HD := hide hD
  have HC := hide hC
  have HF := hide hF
  have hsz := hF.size
  have HJ1 := hide ((unhide HJs) _ _ _ (unhide HJ0) hF (by simp))
  clear hD hC hF HX HJ0
  obtain ⟨Z, hmk⟩ := mkP99 m hm
  go_wp2_with fail
  clear hmk
  have hb := below1 w1 (.cells (madeCells Z (m * 3)) 99)
  have HM := hide (Prw.made (E := eLim) w1 m W.heap.size Z 99 e1 hsz)
  change Hid (Prw eLim w1.heap.size m W.heap.size [] e1 (w1.alloc (.cells (madeCells Z (m * 3)) 99))) at HM
  have HC := hide ((unhide HC).bel hb)
  have HF := hide ((unhide HF).bel hb)
  have HJ1 := hide ((unhide HJs) _ _ _ (unhide HJ1) (Fr.of hb []) (by simp))
  have hsz2 : (w1.alloc (.cells (madeCells Z (m * 3)) 99)).heap.size = w1.heap.size + 1 := by simp
  clear hb
  generalize w1.alloc (.cells (madeCells Z (m * 3)) 99) = w2 at *
  go_loopw [12] (fun v12 wr => ∃ (L : List _) (k2 : Nat) (e2 : Int), L.length ≤ m ∧ v12 = .int .i64 (L.length : Int) ∧ Prw eLim w1.heap.size m W.heap.size L e2 wr ∧ Cs c a len cap xs k2 e2 wr ∧ J wr ∧ Fr [c] W wr ∧ w1.heap.size < wr.heap.size ∧ (∀ s k' e', Rd (repR rTable (m - L.length)) xs k2 e2 s k' e' → Rd (rList rTable) xs k e (id (L ++ s)) k' e')) (fun v12 _ => m - (intOf v12).toNat)
  case atStart =>
    refine ⟨[], k1, e1, Nat.zero_le _, rfl, unhide HM, unhide HC, unhide HJ1, unhide HF, by omega, fun s k' e' hs => (unhide HD).bd ?_⟩
    rw [show ((m : Int)).toNat = m by omega]
    exact hs
  case round =>
    obtain ⟨L, k2, e2, hi, rfl, hP, hC, hJ, hF, hlg, hK⟩ := hrel
    clear HM HC HJ1 HF HD
    by_cases hlt : L.length < m
    · have hi' : (L.length : Int) < (m : Int) := by omega
      have HX := hide (unhide HOs k2 e2 _ hF.size hC hJ)
      have HP := hide hP
      have HF := hide hF
      have HK := hide hK
      clear hP hC hJ hF hK
      go_wp2_with fail
      refine (unhide HX).mono ?_
      rintro _ w3 ⟨y, cs, k3, e3, rfl, hD, hy, hC, hJ, hF2⟩
      have hsz3 := hF2.size
      have hsW := (unhide HF).size
      have h0 := hD.zero
      have HP2 := hide ((unhide HP).fr hF2 (by simp; omega) (by simp; omega) h0)
      have HF3 := hide ((unhide HF).trans hF2)
      have HKn := hide (Rd.more2 id (n := m - (L.length + 1)) (by rw [show m - (L.length + 1) + 1 = m - L.length by omega]; exact unhide HK) hD)
      have hcl2 : cs.length = 3 := hy.len
      have hone := hy.one
      have HY := hide hy
      have HC2 := hide hC
      have HJ2 := hide hJ
      clear hD hy hC hJ hF2 HX HP HF HK
      go_wp2_with ((refine wpList_storeA rfl 99 (.tmp 19) (.tmp 18) rfl rfl (g := w1.heap.size) (off := L.length * 3) (cs := cs) rfl rfl (by rw [hcl2]; exact szP99) (fun j hj => (unhide HP2).spare hlt (show j < 3 by omega)) hone ?_))
      have hFg := fr_cells w1.heap.size cs (L.length * 3) w3
      have hl1 : (L ++ [y]).length = L.length + 1 := by simp
      refine ⟨⟨L ++ [y], k3, e3, by omega, by rw [hl1]; go_num, (unhide HP2).put hlt hcl2 (fun q => q) (fun q => (unhide HY).rep q (fun b _ hb => ⟨by omega, by omega⟩)), (unhide HC2).fr hFg (by simp; omega) (fun p hp hl => by have := unhide HAl p hp hl; simp; omega), unhide HJs _ _ _ (unhide HJ2) hFg (by simp; omega), (unhide HF3).thenL hFg (by simp; omega), by have := hFg.size; omega, by rw [hl1]; exact unhide HKn⟩, by simp [intOf]; omega⟩
    · obtain rfl : m = L.length := by omega
      have HP := hide hP
      have HC := hide hC
      have HJ2 := hide hJ
      have HF := hide hF
      have HK := hide (Rd.fin id hK (.inl (by omega)))
      clear hP hC hF hJ hK
      go_wp2_with fail
      go_ret
      exact ⟨L, w1.heap.size, k2, e2, rfl, unhide HK, fun q => by subst q; exact (unhide HP).sls, unhide HC, unhide HJ2, unhide HF⟩
end
end Go.Proofs.YtjoonmpjcophnaaGreatDoor
namespace Go.Proofs.YtjoonmpjcophnaaGreatDoor
open Go.RowKit

section
variable {c : Nat} {a : Option Addr} {len cap k : Nat} {xs : List Int} {e : Int} {W : World} {sat : Bool}
set_option maxHeartbeats 4000000 in
set_option maxRecDepth 100000 in
theorem sub81_any (h : Cs c a len cap xs k e W) (hm : Mk W) (hc : 4 ≤ c) : Calls Tryz.prog 81 #[.agg #[.pointer (some ⟨c, 0, none⟩), .bool sat]] W fun r W' => ∃ L g k' e', r = .returned (.slice (some ⟨g, 0, none⟩) L.length L.length) ∧ Rd (rList rTable) xs k e L k' e' ∧ (e' = 0 → Sls eLim W' (fun b => W.heap.size ≤ b) L (.slice (some ⟨g, 0, none⟩) L.length L.length)) ∧ Cs c a len cap xs k' e' W' ∧ Mk W' ∧ Fr [c] W W' := by
  have hcl := h.1.lt
  have hb := below1 W (.cells #[.pointer (some ⟨c, 0, none⟩), .bool sat] 68)
  have HV := vr_new [.pointer (some ⟨c, 0, none⟩), .bool sat] 68 W
  have hq : W.heap.size < (W.alloc (.cells #[.pointer (some ⟨c, 0, none⟩), .bool sat] 68)).heap.size := by simp
  have hB : Tab (W.alloc (.cells #[.pointer (some ⟨c, 0, none⟩), .bool sat] 68)) W.heap.size [.pointer (some ⟨c, 0, none⟩), .bool sat] := HV.tab
  have HF0 := hide (Fr.of hb [c])
  have HX := hide (list115_any (h.bel hb) (J := fun w => Mk w ∧ Tab w W.heap.size [.pointer (some ⟨c, 0, none⟩), .bool sat] ∧ W.heap.size < w.heap.size) ⟨hm.below hb, hB, hq⟩ (fun w w' l hJ hf hl => ⟨hJ.1.fr hf (fun i hi => by rcases hl i hi with q | q <;> omega), hJ.2.1.fr hf (fun hi => by rcases hl _ hi with q | q <;> omega), Nat.lt_of_lt_of_le hJ.2.2 hf.size⟩)
    (fun k e w hw hC hJ => (p_table hC).mono (by rintro _ w' ⟨y, k1, e1, rfl, hD, hC2, hF⟩; exact ⟨y, [.int .u32 y.1, .int .u32 y.2.1, .bool y.2.2], k1, e1, rfl, hD, El.rep'.of rfl _, hC2, ⟨hJ.1.fr hF (by simp; omega), hJ.2.1.fr hF (by simp; omega), Nat.lt_of_lt_of_le hJ.2.2 hF.size⟩, hF⟩)))
  clear h hm hb HV hB
  go_enter Tryz.func81, Tryz.ntmps81
  go_wp2_with fail
  refine (unhide HX).mono ?_
  rintro _ w1 ⟨L, g, k1, e1, rfl, hD, hS, hC, hJ, hF⟩
  have HD := hide hD
  have HS := hide hS
  have HC := hide hC
  have HM := hide hJ.1
  have HF := hide ((unhide HF0).trans hF)
  clear hD hS hC hJ hF
  go_wp2_with fail
  go_ret
  exact ⟨L, g, k1, e1, rfl, unhide HD, fun q => (unhide HS q).mono (fun b _ hb => by omega), unhide HC, unhide HM, unhide HF⟩
end
end Go.Proofs.YtjoonmpjcophnaaGreatDoor
namespace Go.Proofs.YtjoonmpjcophnaaGreatDoor
open Go.RowKit

section
variable {c : Nat} {a : Option Addr} {len cap k : Nat} {xs : List Int} {e : Int} {W : World} {sat : Bool} {q : Nat}
set_option maxHeartbeats 4000000 in
set_option maxRecDepth 100000 in
theorem list115b_any {J : World → Prop} (h : Cs c a len cap xs k e W) (hJ : J W) (HJ : ∀ w w' l, J w → Fr l w w' → (∀ i ∈ l, i = c ∨ W.heap.size ≤ i) → J w')
    (HO : ∀ k e w, W.heap.size ≤ w.heap.size → Cs c a len cap xs k e w → J w → Calls Tryz.prog 112 #[.pointer (some ⟨c, 0, none⟩)] w fun r w' => ∃ y cs k' e', r = .returned (.agg cs.toArray) ∧ Rd rLimits xs k e y k' e' ∧ eLim.rep' w' (fun b => w.heap.size ≤ b) e' y cs ∧ Cs c a len cap xs k' e' w' ∧ J w' ∧ Fr [c] w w') :
    Calls Tryz.prog 115 #[.pointer (some ⟨c, 0, none⟩), .func (.func 112) #[.pointer (some ⟨c, 0, none⟩)] #[]] W fun r W' => ∃ L g k' e', r = .returned (.slice (some ⟨g, 0, none⟩) L.length L.length) ∧ Rd (rList rLimits) xs k e L k' e' ∧ (e' = 0 → Sls eLim W' (fun b => W.heap.size ≤ b) L (.slice (some ⟨g, 0, none⟩) L.length L.length)) ∧ Cs c a len cap xs k' e' W' ∧ J W' ∧ Fr [c] W W' := by
  have HX := hide (p_count h)
  have hcl := h.1.lt
  have HAl : Hid (∀ p, a = some p → 0 < len → p.block < W.heap.size) := hide h.2.1.lt
  have HJ0 := hide hJ
  have HJs := hide HJ
  have HOs := hide HO
  clear h hJ HJ HO
  go_enter Tryz.func115, Tryz.ntmps115
  go_wp2_with fail
  refine (unhide HX).mono ?_
  rintro _ w1 ⟨m, k1, e1, rfl, hD, hm, hC, hF⟩
  have HD := hide hD
  have HC := hide hC
  have HF := hide hF
  have hsz := hF.size
  have HJ1 := hide ((unhide HJs) _ _ _ (unhide HJ0) hF (by simp))
  clear hD hC hF HX HJ0
  obtain ⟨Z, hmk⟩ := mkP99 m hm
  go_wp2_with fail
  clear hmk
  have hb := below1 w1 (.cells (madeCells Z (m * 3)) 99)
  have HM := hide (Prw.made (E := eLim) w1 m W.heap.size Z 99 e1 hsz)
  change Hid (Prw eLim w1.heap.size m W.heap.size [] e1 (w1.alloc (.cells (madeCells Z (m * 3)) 99))) at HM
  have HC := hide ((unhide HC).bel hb)
  have HF := hide ((unhide HF).bel hb)
  have HJ1 := hide ((unhide HJs) _ _ _ (unhide HJ1) (Fr.of hb []) (by simp))
  have hsz2 : (w1.alloc (.cells (madeCells Z (m * 3)) 99)).heap.size = w1.heap.size + 1 := by simp
  clear hb
  generalize w1.alloc (.cells (madeCells Z (m * 3)) 99) = w2 at *
  go_loopw [12] (fun v12 wr => ∃ (L : List _) (k2 : Nat) (e2 : Int), L.length ≤ m ∧ v12 = .int .i64 (L.length : Int) ∧ Prw eLim w1.heap.size m W.heap.size L e2 wr ∧ Cs c a len cap xs k2 e2 wr ∧ J wr ∧ Fr [c] W wr ∧ w1.heap.size < wr.heap.size ∧ (∀ s k' e', Rd (repR rLimits (m - L.length)) xs k2 e2 s k' e' → Rd (rList rLimits) xs k e (id (L ++ s)) k' e')) (fun v12 _ => m - (intOf v12).toNat)
  case atStart =>
    refine ⟨[], k1, e1, Nat.zero_le _, rfl, unhide HM, unhide HC, unhide HJ1, unhide HF, by omega, fun s k' e' hs => (unhide HD).bd ?_⟩
    rw [show ((m : Int)).toNat = m by omega]
    exact hs
  case round =>
    obtain ⟨L, k2, e2, hi, rfl, hP, hC, hJ, hF, hlg, hK⟩ := hrel
    clear HM HC HJ1 HF HD
    by_cases hlt : L.length < m
    · have hi' : (L.length : Int) < (m : Int) := by omega
      have HX := hide (unhide HOs k2 e2 _ hF.size hC hJ)
      have HP := hide hP
      have HF := hide hF
      have HK := hide hK
      clear hP hC hJ hF hK
      go_wp2_with fail
      refine (unhide HX).mono ?_
      rintro _ w3 ⟨y, cs, k3, e3, rfl, hD, hy, hC, hJ, hF2⟩
      have hsz3 := hF2.size
      have hsW := (unhide HF).size
      have h0 := hD.zero
      have HP2 := hide ((unhide HP).fr hF2 (by simp; omega) (by simp; omega) h0)
      have HF3 := hide ((unhide HF).trans hF2)
      have HKn := hide (Rd.more2 id (n := m - (L.length + 1)) (by rw [show m - (L.length + 1) + 1 = m - L.length by omega]; exact unhide HK) hD)
      have hcl2 : cs.length = 3 := hy.len
      have hone := hy.one
      have HY := hide hy
      have HC2 := hide hC
      have HJ2 := hide hJ
      clear hD hy hC hJ hF2 HX HP HF HK
      go_wp2_with ((refine wpList_storeA rfl 99 (.tmp 19) (.tmp 18) rfl rfl (g := w1.heap.size) (off := L.length * 3) (cs := cs) rfl rfl (by rw [hcl2]; exact szP99) (fun j hj => (unhide HP2).spare hlt (show j < 3 by omega)) hone ?_))
      have hFg := fr_cells w1.heap.size cs (L.length * 3) w3
      have hl1 : (L ++ [y]).length = L.length + 1 := by simp
      refine ⟨⟨L ++ [y], k3, e3, by omega, by rw [hl1]; go_num, (unhide HP2).put hlt hcl2 (fun q => q) (fun q => (unhide HY).rep q (fun b _ hb => ⟨by omega, by omega⟩)), (unhide HC2).fr hFg (by simp; omega) (fun p hp hl => by have := unhide HAl p hp hl; simp; omega), unhide HJs _ _ _ (unhide HJ2) hFg (by simp; omega), (unhide HF3).thenL hFg (by simp; omega), by have := hFg.size; omega, by rw [hl1]; exact unhide HKn⟩, by simp [intOf]; omega⟩
    · obtain rfl : m = L.length := by omega
      have HP := hide hP
      have HC := hide hC
      have HJ2 := hide hJ
      have HF := hide hF
      have HK := hide (Rd.fin id hK (.inl (by omega)))
      clear hP hC hF hJ hK
      go_wp2_with fail
      go_ret
      exact ⟨L, w1.heap.size, k2, e2, rfl, unhide HK, fun q => by subst q; exact (unhide HP).sls, unhide HC, unhide HJ2, unhide HF⟩
end
end Go.Proofs.YtjoonmpjcophnaaGreatDoor
namespace Go.Proofs.YtjoonmpjcophnaaGreatDoor
open Go.RowKit

section
variable {c : Nat} {a : Option Addr} {len cap k : Nat} {xs : List Int} {e : Int} {W : World} {sat : Bool}
set_option maxHeartbeats 4000000 in
set_option maxRecDepth 100000 in
theorem sub82_any (h : Cs c a len cap xs k e W) (hm : Mk W) (hc : 4 ≤ c) : Calls Tryz.prog 82 #[.agg #[.pointer (some ⟨c, 0, none⟩), .bool sat]] W fun r W' => ∃ L g k' e', r = .returned (.slice (some ⟨g, 0, none⟩) L.length L.length) ∧ Rd (rList rLimits) xs k e L k' e' ∧ (e' = 0 → Sls eLim W' (fun b => W.heap.size ≤ b) L (.slice (some ⟨g, 0, none⟩) L.length L.length)) ∧ Cs c a len cap xs k' e' W' ∧ Mk W' ∧ Fr [c] W W' := by
  have hcl := h.1.lt
  have hb := below1 W (.cells #[.pointer (some ⟨c, 0, none⟩), .bool sat] 68)
  have HV := vr_new [.pointer (some ⟨c, 0, none⟩), .bool sat] 68 W
  have hq : W.heap.size < (W.alloc (.cells #[.pointer (some ⟨c, 0, none⟩), .bool sat] 68)).heap.size := by simp
  have hB : Tab (W.alloc (.cells #[.pointer (some ⟨c, 0, none⟩), .bool sat] 68)) W.heap.size [.pointer (some ⟨c, 0, none⟩), .bool sat] := HV.tab
  have HF0 := hide (Fr.of hb [c])
  have HX := hide (list115b_any (h.bel hb) (J := fun w => Mk w ∧ Tab w W.heap.size [.pointer (some ⟨c, 0, none⟩), .bool sat] ∧ W.heap.size < w.heap.size) ⟨hm.below hb, hB, hq⟩ (fun w w' l hJ hf hl => ⟨hJ.1.fr hf (fun i hi => by rcases hl i hi with q | q <;> omega), hJ.2.1.fr hf (fun hi => by rcases hl _ hi with q | q <;> omega), Nat.lt_of_lt_of_le hJ.2.2 hf.size⟩)
    (fun k e w hw hC hJ => (p_limits hC).mono (by rintro _ w' ⟨y, k1, e1, rfl, hD, hC2, hF⟩; exact ⟨y, [.int .u32 y.1, .int .u32 y.2.1, .bool y.2.2], k1, e1, rfl, hD, El.rep'.of rfl _, hC2, ⟨hJ.1.fr hF (by simp; omega), hJ.2.1.fr hF (by simp; omega), Nat.lt_of_lt_of_le hJ.2.2 hF.size⟩, hF⟩)))
  clear h hm hb HV hB
  go_enter Tryz.func82, Tryz.ntmps82
  go_wp2_with fail
  refine (unhide HX).mono ?_
  rintro _ w1 ⟨L, g, k1, e1, rfl, hD, hS, hC, hJ, hF⟩
  have HD := hide hD
  have HS := hide hS
  have HC := hide hC
  have HM := hide hJ.1
  have HF := hide ((unhide HF0).trans hF)
  clear hD hS hC hJ hF
  go_wp2_with fail
  go_ret
  exact ⟨L, g, k1, e1, rfl, unhide HD, fun q => (unhide HS q).mono (fun b _ hb => by omega), unhide HC, unhide HM, unhide HF⟩
end
end Go.Proofs.YtjoonmpjcophnaaGreatDoor
namespace Go.Proofs.YtjoonmpjcophnaaGreatDoor
theorem done_more {k n : Nat} (e5 : Int) (hk : k < n) : (if e5 = 0 then (105 : Int) else e5) = doneE 0 e5 k n := by
  by_cases q : e5 = 0 <;> simp [doneE, q, hk]
theorem done_less {k n : Nat} (e5 : Int) (hk : ¬ k < n) : e5 = doneE 0 e5 k n := by
  by_cases q : e5 = 0 <;> simp [doneE, q, hk]
theorem szP68 : (Tryz.prog.info? 68).map (·.size) = some 2 := by kernel_rfl
end Go.Proofs.YtjoonmpjcophnaaGreatDoor
