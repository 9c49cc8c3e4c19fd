/- RfD, CeB, CeD. -/
import Derived.Test.YtalahdkgigcpfaaDoorG34
import Derived.Test.YtalahdkgigcpfaaDoorG35
import Derived.Test.YtalahdkgigcpfaaDoorG39
namespace Go.Proofs.YtalahdkgigcpfaaDoor
open Go.RowKit

set_option maxHeartbeats 1000000 in
set_option maxRecDepth 100000 in
theorem rCount1_any {c : Nat} {a : Option Addr} {len cap k : Nat} {xs : List Int} {k1 : Nat} {y e e1 e3 : Int} {W : World}
    (HU : Hid (∀ W, Cs c a len cap xs k e W → Calls Tryd.prog 60 #[.pointer (some ⟨c, 0, none⟩), .int .i64 32] W fun r W' => r = .returned (.int .u64 y) ∧ Cs c a len cap xs k1 e1 W' ∧ Fr [c] W W'))
    (y0 : 0 ≤ y) (y1 : y < 4294967296) (HT : Hid (e3 = chE (decide (y ≤ 4096)) e1 3)) (h : Cs c a len cap xs k e W) :
    Calls Tryd.prog 61 #[.pointer (some ⟨c, 0, none⟩)] W fun r W' => r = .returned (.int .i64 (pk e3 y 0)) ∧ Cs c a len cap xs (back e3 k1 k) e3 W' ∧ Fr [c] W W' := by
  have HKL := hide h.2.2.2.2.1
  have h1 := h.1.2.1
  have H := hide h
  clear h
  go_enter Tryd.func61, Tryd.ntmps61
  go_wp2_with fail
  refine (unhide HU _ (unhide H)).mono ?_
  rintro _ w1 ⟨rfl, hC, hF⟩
  have H := hide hC
  have HF := hide hF
  clear hC hF h1
  by_cases hy : y ≤ 4096
  · have hy' : ¬ 4096 < y := by omega
    rw [decide_eq_true hy] at HT
    have H : Hid (Cs c a len cap xs k1 e3 w1) := hide (by rw [unhide HT]; exact unhide H)
    have h2 := (unhide H).1.2.2.1
    by_cases he : e3 = 0
    · subst he
      go_wp2_with fail
      go_ret
      exact ⟨rfl, unhide H, unhide HF⟩
    · have d : (e3 != 0) = true := bne_iff_ne.2 he
      have HK := hide (rBack_any (k0 := k) (unhide H) (unhide HKL))
      have HE := hide he
      clear he
      go_wp2_with fail
      refine (unhide HK).mono ?_
      rintro _ w9 ⟨rfl, hC, hF⟩
      have HF := hide ((unhide HF).trans hF)
      have H := hide hC
      clear hC hF
      go_wp2_with fail
      go_ret
      exact ⟨by rw [pk_e (unhide HE)]; rfl, unhide H, unhide HF⟩
  · have hy' : 4096 < y := by omega
    rw [decide_eq_false hy] at HT
    clear hy
    go_wp2_with fail
    refine (rFail_any (unhide H)).mono ?_
    rintro _ w4 ⟨rfl, hC, hF⟩
    have H : Hid (Cs c a len cap xs k1 e3 w4) := hide (by rw [unhide HT]; exact hC)
    have HF := hide ((unhide HF).trans hF)
    have h2 := (unhide H).1.2.2.1
    clear hC hF
    by_cases he : e3 = 0
    · subst he
      go_wp2_with fail
      go_ret
      exact ⟨rfl, unhide H, unhide HF⟩
    · have d : (e3 != 0) = true := bne_iff_ne.2 he
      have HK := hide (rBack_any (k0 := k) (unhide H) (unhide HKL))
      have HE := hide he
      clear he
      go_wp2_with fail
      refine (unhide HK).mono ?_
      rintro _ w9 ⟨rfl, hC, hF⟩
      have HF := hide ((unhide HF).trans hF)
      have H := hide hC
      clear hC hF
      go_wp2_with fail
      go_ret
      exact ⟨by rw [pk_e (unhide HE)]; rfl, unhide H, unhide HF⟩
theorem rCount_any {c : Nat} {a : Option Addr} {len cap k : Nat} {xs : List Int} {e : Int} {W : World} (h : Cs c a len cap xs k e W) :
    Calls Tryd.prog 61 #[.pointer (some ⟨c, 0, none⟩)] W fun r W' => r = .returned (.int .i64 (lift rCount 0 xs k e).1) ∧ Cs c a len cap xs (lift rCount 0 xs k e).2.1 (lift rCount 0 xs k e).2.2 W' ∧ Fr [c] W W' := by
  have hlt := liftU_lt h.2.2.2.1 k e
  have HU := fun W h => rUint_any (c := c) (a := a) (len := len) (cap := cap) (xs := xs) (k := k) (e := e) (b := 32) (W := W) h (by decide) (by decide)
  obtain ⟨⟨y, k1, e1⟩, hU⟩ : ∃ t, lift (rU 32) 0 xs k e = t := ⟨_, rfl⟩
  rw [hU] at hlt HU
  dsimp only at hlt HU
  have hL : lift rCount 0 xs k e = (pk (chE (decide (y ≤ 4096)) e1 3) y 0, back (chE (decide (y ≤ 4096)) e1 3) k1 k, chE (decide (y ≤ 4096)) e1 3) := by
    unfold rCount
    exact seq_tst (p := fun n => decide (n ≤ 4096)) (g := id) hU (by decide)
  rw [hL]
  exact rCount1_any (hide HU) hlt.1 hlt.2 (hide rfl) h
end Go.Proofs.YtalahdkgigcpfaaDoor
namespace Go.Proofs.YtalahdkgigcpfaaDoor
open Go.RowKit

/-- A row of instructions that is being made: what it leads to lies elsewhere, or in elder blocks. -/
structure Ry (Q : Nat → Prop) (t : TypeId) (B : Nat) (v : Value) (T : Fo) (cs : List Value) (e : Int) (w : World) : Prop where
  own : w.ownsRow B t 9 v T.len cs
  enc : e = 0 → Enc w (fun b => Q b ∧ b < B ∨ B ≤ b ∧ v.ownBlock ≠ some b) T cs
theorem ry_nil (Q : Nat → Prop) (t : TypeId) (B : Nat) (e : Int) (w : World) : Ry Q t B (.slice none 0 0) .nil [] e w := ⟨World.ownsRow_nil _ _ _ _, fun _ => rfl⟩
theorem Ry.fr {Q : Nat → Prop} {t : TypeId} {B : Nat} {v : Value} {T : Fo} {cs : List Value} {e e' : Int} {w w' : World} (h : Ry Q t B v T cs e w) (hf : Fr [] w w') (he : e' = 0 → e = 0) : Ry Q t B v T cs e' w' := by
  refine ⟨⟨h.own.1, ?_⟩, fun q => (h.enc (he q)).fr hf (by simp)⟩
  rcases h.own.2 with hn | ⟨g, cap, cur, h1, hb, hgg, rest⟩
  · exact .inl hn
  · refine .inr ⟨g, cap, cur, h1, hb, ?_, rest⟩
    rw [hf.block g (Array.getElem?_eq_some_iff.1 hgg).1 (by simp)]
    exact hgg
theorem Ry.slice {Q : Nat → Prop} {t : TypeId} {B : Nat} {v : Value} {T : Fo} {cs : List Value} {e : Int} {w : World} (h : Ry Q t B v T cs e w) : ∃ p s, v = .slice p T.len s := by
  rcases h.own.2 with ⟨h1, h2⟩ | ⟨g, cap, cur, h1, _⟩
  · exact ⟨none, 0, by rw [h1, h2]⟩
  · exact ⟨_, _, h1⟩
theorem Ry.fov {Q : Nat → Prop} {t : TypeId} {B : Nat} {v : Value} {T : Fo} {cs : List Value} {e : Int} {w : World} (h : Ry Q t B v T cs e w) (he : e = 0) : Fov w (fun b => Q b ∧ b < B ∨ B ≤ b) T v :=
  ⟨cs, (h.enc he).mono (fun b _ hb => hb.elim .inl (fun q => .inr q.1)), slc_own h.own (by decide) (fun g hg => .inr (h.own.lt g hg).1)⟩
/-- One instruction more. -/
theorem Ry.app {Q : Nat → Prop} {t ty : TypeId} {i : TypeInfo} {z : Value} {bytes : Nat} (ht : Tryd.prog.underlying t = some (.slice ty)) (hi : Tryd.prog.info? ty = some i) (hz : i.zero = some z)
    (hsize : i.size = 9) (hby : i.bytes = bytes) (hb1 : bytes ≤ 1000) (hzs : z.cells.size = 9) {B : Nat} {v : Value} {T : Fo} {cs : List Value} {e e2 : Int} {w w1 w2 : World} (h : Ry Q ty B v T cs e w) (hf : Fr [] w w1)
    (hB : B ≤ w.heap.size) (hn : T.len ≤ 10000000000) {hd : Hd} {t' e' : Fo} {lv vt ve : Value} (ho1 : lv.oneCell' = true) (ho2 : vt.oneCell' = true) (ho3 : ve.oneCell' = true) (he : e2 = 0 → e = 0)
    (hx : e2 = 0 → Slc w1 (fun b => Q b ∧ b < B ∨ w.heap.size ≤ b) hd.list.length (uCells hd.list) lv ∧ Fov w1 (fun b => Q b ∧ b < B ∨ w.heap.size ≤ b) t' vt ∧ Fov w1 (fun b => Q b ∧ b < B ∨ w.heap.size ≤ b) e' ve)
    (hw2 : w2 = w1.alloc (.cells (hcells hd lv vt ve).toArray ty)) :
    ∃ p s w3, (Builtin.append_ #[t, t] t #[v, .slice (some ⟨w1.heap.size, 0, none⟩) 1 1]).run Tryd.prog w2 = .ok (.slice p (T.len + 1) s) w3 ∧ Ry Q ty B (.slice p (T.len + 1) s) (T.app (.cons hd t' e' .nil)) (cs ++ hcells hd lv vt ve) e2 w3 ∧ (∀ W, Fr [] W w1 → W.heap.size ≤ B → Fr [] W w3) ∧ (∀ (p : Addr) (x : Value), w1.cell? p = some x → v.ownBlock ≠ some p.block → w3.cell? p = some x) := by
  have hfl := hf
  have h' := h.fr hfl (e' := e2) he
  have hbl := below1 w1 (.cells (hcells hd lv vt ve).toArray ty)
  rw [← hw2] at hbl
  have h2 := h'.fr (Fr.of hbl []) (e' := e2) (fun q => q)
  have hsz2 : w2.heap.size = w1.heap.size + 1 := by rw [hw2]; simp
  have hsz1 := hfl.size
  have hcell : ∀ j u, (hcells hd lv vt ve)[j]? = some u → w2.cell? ((⟨w1.heap.size, 0, none⟩ : Addr).add j) = some u := by
    intro j u hj
    rw [add_off, Nat.zero_add, hw2, World.cell?_alloc_new]
    simpa using hj
  have hone : ∀ u ∈ hcells hd lv vt ve, u.oneCell' = true := by
    intro u hu
    simp only [hcells, List.mem_cons, List.not_mem_nil, or_false] at hu
    rcases hu with rfl | rfl | rfl | rfl | rfl | rfl | rfl | rfl | rfl
    all_goals first | rfl | assumption
  obtain ⟨v', w3, hr, g1, g2, g3⟩ := app_own (c := 1) ht hi hz hsize hby hzs (by decide) h2.own (m := 1) (news := hcells hd lv vt ve) rfl hcell hone (by unfold maxLen; omega) (by have := Nat.mul_le_mul (show T.len + 1 ≤ 10000000001 by omega) (show i.bytes ≤ 1000 by omega); rw [← hby]; omega) (by omega)
  have hlen : (T.app (.cons hd t' e' .nil)).len = T.len + 1 := by rw [Fo.len_app]; rfl
  have hfg := fr_grown g2
  have hvl := h2.own.lt
  have hR : Ry Q ty B v' (T.app (.cons hd t' e' .nil)) (cs ++ hcells hd lv vt ve) e2 w3 := by
    refine ⟨by rw [hlen]; exact g1, fun q => ?_⟩
    obtain ⟨x1, x2, x3⟩ := hx q
    have hv0 : ∀ b, v.ownBlock = some b → B ≤ b ∧ b < w.heap.size := fun b hb => h.own.lt b hb
    have hv1 : ∀ b, v'.ownBlock = some b → v.ownBlock = some b ∨ w2.heap.size ≤ b := g3
    have m0 : ∀ b, b < w2.heap.size → (fun b => Q b ∧ b < B ∨ B ≤ b ∧ v.ownBlock ≠ some b) b → (fun b => (Q b ∧ b < B ∨ B ≤ b ∧ v.ownBlock ≠ some b) ∧ b < w2.heap.size) b := fun b h1 h2 => ⟨h2, h1⟩
    have fin0 : ∀ b, b < w3.heap.size → (fun b => (Q b ∧ b < B ∨ B ≤ b ∧ v.ownBlock ≠ some b) ∧ b < w2.heap.size) b → (fun b => Q b ∧ b < B ∨ B ≤ b ∧ v'.ownBlock ≠ some b) b := by
      intro b _ hq
      rcases hq.1 with q1 | q1
      · exact .inl q1
      · refine .inr ⟨q1.1, fun hv' => ?_⟩
        rcases hv1 b hv' with q2 | q2
        · exact q1.2 q2
        · have := hq.2; omega
    have up : ∀ i ∈ v.ownBlock.toList, ¬ (fun b => (Q b ∧ b < B ∨ B ≤ b ∧ v.ownBlock ≠ some b) ∧ b < w2.heap.size) i := by
      intro i hi hp
      have hv : v.ownBlock = some i := by simpa using hi
      rcases hp.1 with q1 | q1
      · have := (hv0 i hv).1; omega
      · exact q1.2 hv
    have m1 : ∀ b, b < w1.heap.size → (fun b => Q b ∧ b < B ∨ w.heap.size ≤ b) b → (fun b => (Q b ∧ b < B ∨ B ≤ b ∧ v.ownBlock ≠ some b) ∧ b < w2.heap.size) b := by
      intro b h1 h2
      refine ⟨h2.elim .inl (fun q => .inr ⟨by omega, fun hv => ?_⟩), by omega⟩
      have := (hv0 b hv).2
      omega
    refine Enc.app ?_ ((((h2.enc q).mono m0).fr hfg up).mono fin0)
    have y1 := (((x1.mono m1).fr (Fr.of hbl []) (by simp)).fr hfg up).mono fin0
    have y2 := (((x2.mono m1).fr (Fr.of hbl []) (by simp)).fr hfg up).mono fin0
    have y3 := (((x3.mono m1).fr (Fr.of hbl []) (by simp)).fr hfg up).mono fin0
    exact ⟨lv, vt, ve, [], by rw [List.append_nil], y1, y2, y3, rfl⟩
  obtain ⟨p, s, rfl⟩ := hR.slice
  rw [hlen] at hr hR
  refine ⟨p, s, w3, hr, hR, fun W hF hW => ((hF.bel hbl).grown g2 (fun g hg => .inr ?_)), fun q x hx hne => ?_⟩
  · have := (hvl g hg).1; omega
  · exact ((Fr.of hbl v.ownBlock.toList).trans hfg).keep hx (fun hm => hne (by simpa using hm))
end Go.Proofs.YtalahdkgigcpfaaDoor
namespace Go.Proofs.YtalahdkgigcpfaaDoor
open Go.RowKit

theorem uCells_at {ys : List Int} {i : Nat} (h : i < ys.length) : (uCells ys)[i]? = some (.int .u32 (ys.getD i 0)) := by
  simp [uCells, List.getD, h]
set_option maxHeartbeats 8000000 in
set_option maxRecDepth 100000 in
theorem sameL_any {ys : List Int} {P P' : Nat → Prop} {v1 v2 : Value} {W : World} (h1 : Slc W P ys.length (uCells ys) v1) (h2 : Slc W P' ys.length (uCells ys) v2) (hz : ys.length ≤ 10000000000) :
    Calls Tryd.prog 28 #[v1, v2] W fun r W' => r = .returned (.bool true) ∧ Fr [] W W' := by
  obtain ⟨a1, c1, rfl, hc1, -, ho1⟩ := h1
  obtain ⟨a2, c2, rfl, hc2, -, ho2⟩ := h2
  have HO1 := hide ho1
  have HO2 := hide ho2
  clear ho1 ho2
  have hnn : ((ys.length : Int) != (ys.length : Int)) = false := by simp
  go_enter Tryd.func28, Tryd.ntmps28
  go_wp2_with fail
  go_loopw [5] (fun v5 wr => ∃ i : Nat, i ≤ ys.length ∧ v5 = .int .i64 (i : Int) ∧ Fr [] W wr) (fun v5 _ => ys.length - (intOf v5).toNat)
  case atStart => exact ⟨0, by omega, rfl, Fr.refl _ _⟩
  case round =>
    obtain ⟨i, hi, rfl, hF⟩ := hrel
    by_cases hlt : i < ys.length
    · rcases unhide HO1 with ⟨_, h0, _⟩ | ⟨b1, o1, rfl, -, hcell1⟩
      · omega
      · rcases unhide HO2 with ⟨_, h0, _⟩ | ⟨b2, o2, rfl, -, hcell2⟩
        · omega
        · have g1 := hF.keep (hcell1 i _ (uCells_at hlt)) (by simp)
          have g2 := hF.keep (hcell2 i _ (uCells_at hlt)) (by simp)
          have hi' : (i : Int) < (ys.length : Int) := by omega
          have hi2 : (0 : Int) ≤ (i : Int) := by omega
          have HF := hide hF
          generalize ys.getD i 0 = y at *
          clear hcell1 hcell2 hF
          go_wp2_with fail
          go_quiet (fail)
          go_wp2_with fail
          refine ⟨⟨i + 1, by omega, by go_num, (unhide HF).bel (below_drewN (Below.refl _ _) _)⟩, by simp [intOf]; omega⟩
    · obtain rfl : i = ys.length := by omega
      go_wp2_with fail
      go_ret
      exact ⟨rfl, hF⟩
/-- No list is too long. -/
def Lok : Fo → Prop
  | .nil => True
  | .cons h t e r => h.list.length ≤ 10000000000 ∧ Lok t ∧ Lok e ∧ Lok r
theorem Lok.at : ∀ {T : Fo} {i : Nat} {h : Hd} {t e : Fo}, Lok T → T.at i = some (h, t, e) → h.list.length ≤ 10000000000 ∧ Lok t ∧ Lok e
  | .nil, _, _, _, _, _, hh => by cases hh
  | .cons h t e r, 0, _, _, _, hl, hh => by injection hh with hh; injection hh with g1 hh; injection hh with g2 g3; subst g1; subst g2; subst g3; exact ⟨hl.1, hl.2.1, hl.2.2.1⟩
  | .cons h t e r, i + 1, _, _, _, hl, hh => Lok.at (T := r) hl.2.2.2 hh
/-- The contract of Same for what is smaller than n, and the same. -/
def PSame (n : Nat) : Prop := ∀ (T : Fo) (P P' : Nat → Prop) (v1 v2 : Value) (W : World), T.size < n → T.size ≤ 2000000 → Lok T → Fov W P T v1 → Fov W P' T v2 →
  Calls Tryd.prog 11 #[v1, v2] W fun r W' => r = .returned (.bool true) ∧ Fr [] W W'
set_option maxHeartbeats 8000000 in
set_option maxRecDepth 100000 in
theorem same_step {n : Nat} {T : Fo} {P P' : Nat → Prop} {v1 v2 : Value} {W : World} (HI : Hid (PSame n)) (hs : T.size < n + 1) (hz : T.size ≤ 2000000) (hk : Lok T) (h1 : Fov W P T v1) (h2 : Fov W P' T v2) :
  Calls Tryd.prog 11 #[v1, v2] W fun r W' => r = .returned (.bool true) ∧ Fr [] W W' := by
  obtain ⟨a1, c1, rfl, hc1, ho1⟩ := h1.open2
  obtain ⟨a2, c2, rfl, hc2, ho2⟩ := h2.open2
  have HO1 := hide ho1
  have HO2 := hide ho2
  have HK := hide hk
  have hl := T.len_le
  clear ho1 ho2 h1 h2 hk
  have hnn : ((T.len : Int) != (T.len : Int)) = false := by simp
  go_enter Tryd.func11, Tryd.ntmps11
  go_wp2_with fail
  go_loopw [5] (fun v5 wr => ∃ i : Nat, i ≤ T.len ∧ v5 = .int .i64 (i : Int) ∧ Fr [] W wr) (fun v5 _ => T.len - (intOf v5).toNat)
  case atStart => exact ⟨0, by omega, rfl, Fr.refl _ _⟩
  case round =>
    obtain ⟨i, hi, rfl, hF⟩ := hrel
    by_cases hlt : i < T.len
    · obtain ⟨⟨⟨op, ty, aa, bb, bits, li, has⟩, t, e⟩, hat⟩ := Fo.at_some hlt
      obtain ⟨k1, k2, k3⟩ := (unhide HK).at hat
      dsimp only at k1
      rcases unhide HO1 with h0 | ⟨b1, o1, rfl, -, hel1⟩
      · omega
      · rcases unhide HO2 with h0 | ⟨b2, o2, rfl, -, hel2⟩
        · omega
        · obtain ⟨l1x, l3x, t1x, t3x, e1x, e3x, hEx, hLx, htx, hex⟩ := hel1 i _ t e hat
          obtain ⟨l1y, l3y, t1y, t3y, e1y, e3y, hEy, hLy, hty, hey⟩ := hel2 i _ t e hat
          have hsz := Fo.at_size hat
          have hi' : (i : Int) < (T.len : Int) := by omega
          have hi2 : (0 : Int) ≤ (i : Int) := by omega
          have HF := hide hF
          have HLx := hide (hLx.fr hF (by simp))
          have HTx := hide (htx.fr hF (by simp))
          have HEx := hide (hex.fr hF (by simp))
          have HLy := hide (hLy.fr hF (by simp))
          have HTy := hide (hty.fr hF (by simp))
          have HEy := hide (hey.fr hF (by simp))
          obtain ⟨f0, f1, f2, f3, f4, f5, f6, f7, f8⟩ := hEx.fr hF (by simp)
          obtain ⟨g0, g1, g2, g3, g4, g5, g6, g7, g8⟩ := hEy.fr hF (by simp)
          dsimp only at f0 f1 f2 f3 f4 f5 f6 f7 f8 g0 g1 g2 g3 g4 g5 g6 g7 g8
          clear hEx hLx htx hex hEy hLy hty hey hF hel1 hel2
          have n0 : (op != op) = false := by simp
          have n1 : (ty != ty) = false := by simp
          have n2 : (aa != aa) = false := by simp
          have n3 : (bb != bb) = false := by simp
          have n4 : (bits != bits) = false := by simp
          have hl2 : b2 < wr.heap.size := World.block_lt_of_cell? wr _ g0
          have hn2 : ¬ b2 = wr.heap.size := by omega
          go_wp2_with fail
          have hb := Fr.of (below2 wr (.cells #[.int .i64 op, .int .u8 ty, .int .u32 aa, .int .u32 bb, .int .u64 bits, .slice l1x li.length l3x, .slice t1x t.len t3x, .slice e1x e.len e3x, .bool has] 73) (.cells #[.int .i64 op, .int .u8 ty, .int .u32 aa, .int .u32 bb, .int .u64 bits, .slice l1y li.length l3y, .slice t1y t.len t3y, .slice e1y e.len e3y, .bool has] 73)) []
          have HF := hide ((unhide HF).trans hb)
          have HLx := hide ((unhide HLx).fr hb (by simp))
          have HLy := hide ((unhide HLy).fr hb (by simp))
          have HTx := hide ((unhide HTx).fr hb (by simp))
          have HTy := hide ((unhide HTy).fr hb (by simp))
          have HEx := hide ((unhide HEx).fr hb (by simp))
          have HEy := hide ((unhide HEy).fr hb (by simp))
          have HC : Hid (((wr.alloc (.cells #[.int .i64 op, .int .u8 ty, .int .u32 aa, .int .u32 bb, .int .u64 bits, .slice l1x li.length l3x, .slice t1x t.len t3x, .slice e1x e.len e3x, .bool has] 73)).alloc (.cells #[.int .i64 op, .int .u8 ty, .int .u32 aa, .int .u32 bb, .int .u64 bits, .slice l1y li.length l3y, .slice t1y t.len t3y, .slice e1y e.len e3y, .bool has] 73)).cell? ⟨wr.heap.size, 6, none⟩ = some (.slice t1x t.len t3x) ∧ ((wr.alloc (.cells #[.int .i64 op, .int .u8 ty, .int .u32 aa, .int .u32 bb, .int .u64 bits, .slice l1x li.length l3x, .slice t1x t.len t3x, .slice e1x e.len e3x, .bool has] 73)).alloc (.cells #[.int .i64 op, .int .u8 ty, .int .u32 aa, .int .u32 bb, .int .u64 bits, .slice l1y li.length l3y, .slice t1y t.len t3y, .slice e1y e.len e3y, .bool has] 73)).cell? ⟨wr.heap.size + 1, 6, none⟩ = some (.slice t1y t.len t3y) ∧ ((wr.alloc (.cells #[.int .i64 op, .int .u8 ty, .int .u32 aa, .int .u32 bb, .int .u64 bits, .slice l1x li.length l3x, .slice t1x t.len t3x, .slice e1x e.len e3x, .bool has] 73)).alloc (.cells #[.int .i64 op, .int .u8 ty, .int .u32 aa, .int .u32 bb, .int .u64 bits, .slice l1y li.length l3y, .slice t1y t.len t3y, .slice e1y e.len e3y, .bool has] 73)).cell? ⟨wr.heap.size, 7, none⟩ = some (.slice e1x e.len e3x) ∧ ((wr.alloc (.cells #[.int .i64 op, .int .u8 ty, .int .u32 aa, .int .u32 bb, .int .u64 bits, .slice l1x li.length l3x, .slice t1x t.len t3x, .slice e1x e.len e3x, .bool has] 73)).alloc (.cells #[.int .i64 op, .int .u8 ty, .int .u32 aa, .int .u32 bb, .int .u64 bits, .slice l1y li.length l3y, .slice t1y t.len t3y, .slice e1y e.len e3y, .bool has] 73)).cell? ⟨wr.heap.size + 1, 7, none⟩ = some (.slice e1y e.len e3y)) := hide (by simp [go_sem])
          clear hb f0 f1 f2 f3 f4 f5 f6 f7 f8 g0 g1 g2 g3 g4 g5 g6 g7 g8 hl2 hn2
          generalize (wr.alloc (.cells #[.int .i64 op, .int .u8 ty, .int .u32 aa, .int .u32 bb, .int .u64 bits, .slice l1x li.length l3x, .slice t1x t.len t3x, .slice e1x e.len e3x, .bool has] 73)).alloc (.cells #[.int .i64 op, .int .u8 ty, .int .u32 aa, .int .u32 bb, .int .u64 bits, .slice l1y li.length l3y, .slice t1y t.len t3y, .slice e1y e.len e3y, .bool has] 73) = w1 at *
          refine (sameL_any (unhide HLx) (unhide HLy) k1).mono ?_
          rintro _ w2 ⟨rfl, hF1⟩
          have HC := hide (And.intro (hF1.keep (unhide HC).1 (by simp)) (And.intro (hF1.keep (unhide HC).2.1 (by simp)) (And.intro (hF1.keep (unhide HC).2.2.1 (by simp)) (hF1.keep (unhide HC).2.2.2 (by simp)))))
          have HF := hide ((unhide HF).trans hF1)
          have HTx := hide ((unhide HTx).fr hF1 (by simp))
          have HTy := hide ((unhide HTy).fr hF1 (by simp))
          have HEx := hide ((unhide HEx).fr hF1 (by simp))
          have HEy := hide ((unhide HEy).fr hF1 (by simp))
          obtain ⟨c1', c2', c3', c4'⟩ := unhide HC
          clear hF1
          go_wp2_with fail
          refine (unhide HI t _ _ _ _ _ (by omega) (by omega) k2 (unhide HTx) (unhide HTy)).mono ?_
          rintro _ w3 ⟨rfl, hF1⟩
          clear c1' c2' c3' c4'
          have HC := hide (And.intro (hF1.keep (unhide HC).1 (by simp)) (And.intro (hF1.keep (unhide HC).2.1 (by simp)) (And.intro (hF1.keep (unhide HC).2.2.1 (by simp)) (hF1.keep (unhide HC).2.2.2 (by simp)))))
          have HF := hide ((unhide HF).trans hF1)
          have HEx := hide ((unhide HEx).fr hF1 (by simp))
          have HEy := hide ((unhide HEy).fr hF1 (by simp))
          obtain ⟨c1', c2', c3', c4'⟩ := unhide HC
          clear hF1
          go_wp2_with fail
          refine (unhide HI e _ _ _ _ _ (by omega) (by omega) k3 (unhide HEx) (unhide HEy)).mono ?_
          rintro _ w4 ⟨rfl, hF1⟩
          have HF := hide ((unhide HF).trans hF1)
          clear c1' c2' c3' c4' hF1
          go_wp2_with fail
          refine ⟨⟨i + 1, by omega, by go_num, unhide HF⟩, by simp [intOf]; omega⟩
    · obtain rfl : i = T.len := by omega
      go_wp2_with fail
      go_ret
      exact ⟨rfl, hF⟩
theorem same_any : ∀ n, PSame n
  | 0 => fun _ _ _ _ _ _ h _ _ _ _ => absurd h (Nat.not_lt_zero _)
  | n + 1 => fun _ _ _ _ _ _ h hz hk h1 h2 => same_step (hide (same_any n)) h hz hk h1 h2
end Go.Proofs.YtalahdkgigcpfaaDoor
