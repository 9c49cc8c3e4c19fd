/- CdX, CfD, CfE, CfF, CfG, CgC. -/
import Derived.Test.YtalahdkgigcpfaaDoorC34
import Derived.Test.YtalahdkgigcpfaaDoorC35
import Derived.Test.YtalahdkgigcpfaaDoorC39
namespace Go.Proofs.YtalahdkgigcpfaaDoor
open Go.RowKit

section
variable {P : Program} {ops : Array Oper} {Q : Exit → Act → World → Prop} {md : Region.Mode} {S : World → Prop}
end
/-- An append that is known, as an operation. -/
theorem oper_app {t : TypeId} {dst : Option Tmp} {s x : Operand} {pos : String} {af : Array Edge} {g : Option (Nat × Bool)} {a : Act} {w w' : World} {K : Act → World → Prop} {Q : Exit → Act → World → Prop} {v u v' : Value}
    (hs : a.eval s = v) (hx : a.eval x = u) (hrun : (Builtin.append_ #[t, t] t #[v, u]).run Tryd.prog w = .ok v' w') (h : K (a.put dst v') w') :
    Oper.wp Tryd.prog ⟨dst, .call { callee := .builtin .append, args := #[s, x], argTypes := #[t, t] }, t, pos, af, g⟩ a w K Q := by
  unfold Oper.wp
  simp only [execOp, resolve, invoke, builtin, Sem.run_bind, Sem.run_pure, Result.andThen_ok, List.map_toArray, List.map_cons, List.map_nil, hs, hx, hrun]
  exact h
/-- A row of numbers of one's own. -/
def Ou (w : World) (B : Nat) (v : Value) (ys : List Int) : Prop := w.ownsRow B 46 1 v ys.length (uCells ys)
theorem Ou.fr {w w' : World} {B : Nat} {v : Value} {ys : List Int} {l : List Nat} (h : Ou w B v ys) (hf : Fr l w w') (hl : ∀ i ∈ l, i < B) : Ou w' B v ys := by
  refine ⟨h.1, ?_⟩
  rcases h.2 with hn | ⟨g, cap, cur, h1, hb, hgg, rest⟩
  · exact .inl hn
  · refine .inr ⟨g, cap, cur, h1, hb, ?_, rest⟩
    rw [hf.block g (Array.getElem?_eq_some_iff.1 hgg).1 (fun hm => by have := hl g hm; omega)]
    exact hgg
theorem Ou.slice {w : World} {B : Nat} {v : Value} {ys : List Int} (h : Ou w B v ys) : ∃ p s, v = .slice p ys.length s := by
  rcases h.2 with ⟨h1, h2⟩ | ⟨g, cap, cur, h1, _⟩
  · exact ⟨none, 0, by rw [h1, h2]⟩
  · exact ⟨_, _, h1⟩
theorem zero46 : ((Tryd.prog.info? 46).getD default).zero = some (.int .u32 0) := by kernel_rfl
theorem Ou.slc {w : World} {B : Nat} {v : Value} {ys : List Int} (h : Ou w B v ys) : Slc w (fun b => B ≤ b) ys.length (uCells ys) v := slc_own h (by decide) (fun g hg => (h.lt g hg).1)
end Go.Proofs.YtalahdkgigcpfaaDoor
namespace Go.Proofs.YtalahdkgigcpfaaDoor
open Go.RowKit

set_option maxHeartbeats 2000000 in
set_option maxRecDepth 100000 in
theorem clonI_any {T : Fo} {P : Nat → Prop} {v : Value} {W : World} (h : Fov W P T v) (hz : T.len ≤ 4000000) : Calls Tryd.prog 43 #[v] W fun r W' => ∃ v' cs, r = .returned v' ∧ Ry P 50 W.heap.size v' T cs 0 W' ∧ Below W.heap.size W W' := by
  have h := h.mono (P' := fun b => P b ∧ b < W.heap.size) (fun b h1 h2 => ⟨h2, h1⟩)
  have H := hide h
  obtain ⟨cs0, hE, a, cap, rfl, hcap, hzz, hpos⟩ := h
  cases a with
  | none =>
    obtain ⟨h0, rfl⟩ : T.len = 0 ∧ cap = 0 := by
      rcases hpos with ⟨h0, hc⟩ | ⟨b, off, hh, _⟩
      · exact ⟨h0, hc rfl⟩
      · cases hh
    rw [h0]
    have hT := fo_nil h0
    clear hE hzz H hpos
    have hq : ∀ w, (binOp .eql 29 (.slice none 0 0) (.slice none 0 0)).run Tryd.prog w = .ok (.bool true) w := fun w => Go.Lib.run_eql_slice_nil w 29 50 none 0 0 0 0 Tryd.underlying29
    go_enter Tryd.func43, Tryd.ntmps43
    go_wp2_with fail
    go_ret
    subst hT
    exact ⟨_, [], rfl, ry_nil _ _ _ _ _, Below.refl _ _⟩
  | some ad =>
    obtain ⟨p, s, w3, ds, hr, hR, hs, hb⟩ := Ry.apps (t := 29) (U := T) Tryd.underlying29 iIn zero50 size50 rfl bytes50 rfl (ry_lit P W) (by simp) (by show 0 + T.len ≤ _; omega) ((unhide H).fr (Fr.of (below1 W (.cells #[] 50)) []) (by simp))
    rw [show Fo.nil.app T = T from rfl] at hr hR
    have hB : Below W.heap.size W w3 := (below1 W (.cells #[] 50)).trans hb
    have HR := hide hr
    have HY := hide hR
    have HB := hide hB
    clear hE hzz H hr hR hs hb hB hpos
    have hq : ∀ w, (binOp .eql 29 (.slice (some ad) T.len cap) (.slice none 0 0)).run Tryd.prog w = .ok (.bool false) w := fun w => Go.Lib.run_eql_slice_nil w 29 50 (some ad) T.len cap 0 0 Tryd.underlying29
    go_enter Tryd.func43, Tryd.ntmps43
    go_wp2_with (at_builtin; refine wpList_appT (t := 29) (by rfl) rfl rfl (unhide HR) ?_)
    go_ret
    exact ⟨_, _, rfl, unhide HY, unhide HB⟩
set_option maxHeartbeats 2000000 in
set_option maxRecDepth 100000 in
theorem clonU_any {ys : List Int} {P : Nat → Prop} {v : Value} {W : World} (h : Slc W P ys.length (uCells ys) v) (hz : ys.length ≤ 10000000000) : Calls Tryd.prog 44 #[v] W fun r W' => ∃ v', r = .returned v' ∧ Slc W' (fun b => W.heap.size ≤ b) ys.length (uCells ys) v' ∧ Below W.heap.size W W' := by
  obtain ⟨a, cap, rfl, hcap, hzz, hpos⟩ := h
  cases a with
  | none =>
    obtain ⟨h0, rfl⟩ : ys.length = 0 ∧ cap = 0 := by
      rcases hpos with ⟨h0, hc⟩ | ⟨b, off, hh, _⟩
      · exact ⟨h0, hc rfl⟩
      · cases hh
    have hy : ys = [] := List.eq_nil_of_length_eq_zero h0
    subst hy
    have hq : ∀ w, (binOp .eql 48 (.slice none 0 0) (.slice none 0 0)).run Tryd.prog w = .ok (.bool true) w := fun w => Go.Lib.run_eql_slice_nil w 48 46 none 0 0 0 0 Tryd.underlying48
    clear hzz hpos
    show Calls Tryd.prog 44 #[.slice none 0 0] W _
    go_enter Tryd.func44, Tryd.ntmps44
    go_wp2_with fail
    go_ret
    exact ⟨_, rfl, slc_nil _ _, Below.refl _ _⟩
  | some ad =>
    have hcell : ∀ j u, (uCells ys)[j]? = some u → W.cell? (ad.add j) = some u := fun j u hj => by
      rcases hpos with ⟨h0, _⟩ | ⟨b, off, hh, _, hc⟩
      · rw [hzz.1 h0] at hj; cases hj
      · injection hh with hh; subst hh; rw [add_off]; exact hc j u hj
    have hO := World.ownsRow_lit (base := W.heap.size) (e := 46) (size := 1) W #[] 0 (Nat.le_refl _) (by unfold maxLen; omega) rfl
    obtain ⟨v', w3, hr, g1, g2, g3⟩ := app_own (c := cap) Tryd.underlying48 iU32 zero46 size46 bytes46 rfl (by decide) hO (m := ys.length) (news := uCells ys) (a := ad) (by rw [uCells_len]; omega) (fun j u hj => ((below1 W (.cells #[] 46)).cell (World.block_lt_of_cell? W _ (hcell j u hj))).trans (hcell j u hj)) (fun u hu => by unfold uCells at hu; obtain ⟨x, _, rfl⟩ := List.mem_map.1 hu; rfl) (by unfold maxLen; omega) (by omega) (by simp)
    have hb : Below W.heap.size W w3 := (below1 W (.cells #[] 46)).trans ((Below.refl W.heap.size _).grown g2 (by simp) (fun k hk => (hO.lt k hk).1))
    have hS : Slc w3 (fun b => W.heap.size ≤ b) ys.length (uCells ys) v' := by
      have := slc_own (P := fun b => W.heap.size ≤ b) g1 (by decide) (fun g hg => (g1.lt g hg).1)
      simpa using this
    have HR := hide hr
    have HS := hide hS
    have HB := hide hb
    obtain ⟨p, s, q, rfl⟩ : ∃ p s q, v' = .slice p s q := by obtain ⟨p, s, h, _⟩ := hS; exact ⟨p, _, s, h⟩
    clear hO hr g1 g2 g3 hb hS hcell hzz hpos
    have hq : ∀ w, (binOp .eql 48 (.slice (some ad) ys.length cap) (.slice none 0 0)).run Tryd.prog w = .ok (.bool false) w := fun w => Go.Lib.run_eql_slice_nil w 48 46 (some ad) ys.length cap 0 0 Tryd.underlying48
    go_enter Tryd.func44, Tryd.ntmps44
    go_wp2_with (at_builtin; refine wpList_appT (t := 48) (by rfl) rfl rfl (unhide HR) ?_)
    go_ret
    exact ⟨_, rfl, unhide HS, unhide HB⟩
end Go.Proofs.YtalahdkgigcpfaaDoor
namespace Go.Proofs.YtalahdkgigcpfaaDoor
open Go.RowKit

/-- Where instructions lie one by one, a slice of them is. -/
theorem enc_build {w : World} {P : Nat → Prop} {g : Nat} : ∀ (T : Fo) (o : Nat), (∀ j hd t e, T.at j = some (hd, t, e) → ∃ vl vt ve, Elt w g (o + j * 9) hd vl vt ve ∧ Slc w P hd.list.length (uCells hd.list) vl ∧ Fov w P t vt ∧ Fov w P e ve) →
    ∃ cs, Enc w P T cs ∧ ∀ k u, cs[k]? = some u → w.cell? ⟨g, o + k, none⟩ = some u
  | .nil, o, _ => ⟨[], rfl, fun k u h => by cases h⟩
  | .cons hd t e r, o, H => by
    obtain ⟨vl, vt, ve, hE, hL, ⟨ct, h3, h4⟩, ⟨ce, h5, h6⟩⟩ := H 0 hd t e rfl
    obtain ⟨cs, hc, hk⟩ := enc_build r (o + 9) (fun j hd' t' e' hj => by
      have := H (j + 1) hd' t' e' hj
      rw [show o + (j + 1) * 9 = o + 9 + j * 9 by omega] at this
      exact this)
    refine ⟨hcells hd vl vt ve ++ cs, ⟨vl, vt, ve, cs, rfl, hL, ⟨ct, h3, h4⟩, ⟨ce, h5, h6⟩, hc⟩, fun k u hu => ?_⟩
    rw [Nat.zero_mul, Nat.add_zero] at hE
    obtain ⟨g0, g1, g2, g3, g4, g5, g6, g7, g8⟩ := hE
    by_cases hk9 : k < 9
    · rw [List.getElem?_append_left (by show k < 9; exact hk9)] at hu
      have hk : k = 0 ∨ k = 1 ∨ k = 2 ∨ k = 3 ∨ k = 4 ∨ k = 5 ∨ k = 6 ∨ k = 7 ∨ k = 8 := by omega
      rcases hk with rfl | rfl | rfl | rfl | rfl | rfl | rfl | rfl | rfl
      all_goals
        injection hu with hu
        subst hu
        assumption
    · rw [List.getElem?_append_right (by show 9 ≤ k; omega)] at hu
      have := hk _ _ hu
      rw [show o + 9 + (k - (hcells hd vl vt ve).length) = o + k by show o + 9 + (k - 9) = o + k; omega] at this
      exact this
theorem fov_build {w : World} {P : Nat → Prop} {g cap : Nat} {T : Fo} (hg : P g) (hc : T.len ≤ cap) (H : ∀ j hd t e, T.at j = some (hd, t, e) → ∃ vl vt ve, Elt w g (j * 9) hd vl vt ve ∧ Slc w P hd.list.length (uCells hd.list) vl ∧ Fov w P t vt ∧ Fov w P e ve) : Fov w P T (.slice (some ⟨g, 0, none⟩) T.len cap) := by
  obtain ⟨cs, h1, h2⟩ := enc_build T 0 (fun j hd t e hj => by rw [Nat.zero_add]; exact H j hd t e hj)
  have hl := h1.len
  refine ⟨cs, h1, _, _, rfl, hc, ⟨fun h => List.eq_nil_of_length_eq_zero (by rw [hl, h, Nat.zero_mul]), fun h => ?_⟩, .inr ⟨g, 0, rfl, fun _ => hg, h2⟩⟩
  subst h
  have : 0 = T.len * 9 := hl
  omega
/-- A row of one's own, one by one. -/
theorem Ry.open {Q : Nat → Prop} {B : Nat} {v : Value} {T : Fo} {cs : List Value} {w : World} (h : Ry Q 50 B v T cs 0 w) : ∃ p s, v = .slice p T.len s ∧ T.len ≤ s ∧ (T.len = 0 ∨ ∃ g, p = some ⟨g, 0, none⟩ ∧ B ≤ g ∧ g < w.heap.size ∧ (∀ j, w.frozen? ⟨g, j, none⟩ = false) ∧
    ∀ j hd t e, T.at j = some (hd, t, e) → ∃ l1 l3 t1 t3 e1 e3, Elt w g (j * 9) hd (.slice l1 hd.list.length l3) (.slice t1 t.len t3) (.slice e1 e.len e3) ∧ Slc w (fun b => b ≠ g) hd.list.length (uCells hd.list) (.slice l1 hd.list.length l3) ∧ Fov w (fun b => b ≠ g) t (.slice t1 t.len t3) ∧ Fov w (fun b => b ≠ g) e (.slice e1 e.len e3)) := by
  have hF := h.fov rfl
  have hE := h.enc rfl
  rcases h.own.2 with ⟨h1, h2⟩ | ⟨g, cap, cur, h1, hb, hg, hnc, hcm, hcs, htake⟩
  · exact ⟨none, 0, by rw [h1, h2], by omega, .inl h2⟩
  · refine ⟨_, _, h1, hnc, ?_⟩
    by_cases h0 : T.len = 0
    · exact .inl h0
    have hlt := (Array.getElem?_eq_some_iff.1 hg).1
    have hfz : ∀ j, w.frozen? ⟨g, j, none⟩ = false := by
      intro j
      show (match w.heap[g]? with | some (Obj.cells c elem (lo, hi)) => decide (lo ≤ j) && decide (j < hi) | x => false) = false
      rw [hg]
      simp
    subst h1
    have hcell := h.own.cells (g := g) rfl
    have hm : ∀ b, b < w.heap.size → (fun b => Q b ∧ b < B ∨ B ≤ b ∧ (Value.slice (some ⟨g, 0, none⟩) T.len cap).ownBlock ≠ some b) b → (fun b => b ≠ g) b := by
      intro b _ hq
      rcases hq with hq | hq
      · show b ≠ g
        have := hq.2
        omega
      · intro hbg
        exact hq.2 (by rw [hbg]; rfl)
    refine .inr ⟨g, rfl, hb, hlt, hfz, fun j hd t e hj => ?_⟩
    obtain ⟨vl, vt, ve, q, s1, s2, s3⟩ := hE.at hj
    obtain ⟨l1, l3, rfl⟩ : ∃ a c, vl = .slice a hd.list.length c := by obtain ⟨a, c, h, _⟩ := s1; exact ⟨a, c, h⟩
    obtain ⟨t1, t3, rfl⟩ := s2.slc
    obtain ⟨e1, e3, rfl⟩ := s3.slc
    have hc : ∀ k u, k < 9 → (hcells hd (.slice l1 hd.list.length l3) (.slice t1 t.len t3) (.slice e1 e.len e3))[k]? = some u → w.cell? ⟨g, j * 9 + k, none⟩ = some u := fun k u hk hu => by
      have := hcell (j * 9 + k) u ((q k hk).trans hu)
      rwa [add_off, Nat.zero_add] at this
    exact ⟨l1, l3, t1, t3, e1, e3, ⟨hc 0 _ (by decide) rfl, hc 1 _ (by decide) rfl, hc 2 _ (by decide) rfl, hc 3 _ (by decide) rfl, hc 4 _ (by decide) rfl, hc 5 _ (by decide) rfl, hc 6 _ (by decide) rfl, hc 7 _ (by decide) rfl, hc 8 _ (by decide) rfl⟩, s1.mono hm, s2.mono hm, s3.mono hm⟩
end Go.Proofs.YtalahdkgigcpfaaDoor
namespace Go.Proofs.YtalahdkgigcpfaaDoor
open Go.RowKit

/-- In block g no cell but three is turned; no other block of these is. -/
structure Ig (g o : Nat) (W W' : World) : Prop where
  fr : Fr [g] W W'
  cel : ∀ j v, W.cell? ⟨g, j, none⟩ = some v → ¬ (o + 5 ≤ j ∧ j < o + 8) → W'.cell? ⟨g, j, none⟩ = some v
  frz : ∀ j, W'.frozen? ⟨g, j, none⟩ = W.frozen? ⟨g, j, none⟩
theorem Ig.refl (g o : Nat) (W : World) : Ig g o W W := ⟨Fr.refl _ _, fun _ _ h _ => h, fun _ => rfl⟩
theorem Ig.nil {g o : Nat} {W W' W'' : World} (h : Ig g o W W') (hf : Fr [] W' W'') (hg : g < W.heap.size) : Ig g o W W'' :=
  ⟨h.fr.trans (hf.mono (by simp)), fun j v hv hn => hf.keep (h.cel j v hv hn) (by simp), fun j => (hf.frozen (p := ⟨g, j, none⟩) (Nat.lt_of_lt_of_le hg h.fr.size) (by simp)).trans (h.frz j)⟩
theorem Ig.put {g o : Nat} {W W' : World} (h : Ig g o W W') {k : Nat} (h5 : o + 5 ≤ k) (h8 : k < o + 8) (v : Value) : Ig g o W (W'.setCell ⟨g, k, none⟩ v) :=
  ⟨h.fr.place _ _, fun j u hu hn => cell_set_off (by omega) (h.cel j u hu hn), fun j => by rw [frozen_set]; exact h.frz j⟩
/-- The contract of copied for what is smaller than n. -/
def PCop (n : Nat) : Prop := ∀ (T : Fo) (P : Nat → Prop) (v : Value) (W : World), T.size < n → T.size ≤ 4000000 → Lok T → Fov W P T v →
  Calls Tryd.prog 31 #[v] W fun r W' => ∃ p s, r = .returned (.slice p T.len s) ∧ Fov W' (fun b => W.heap.size ≤ b) T (.slice p T.len s) ∧ Fr [] W W'
set_option maxHeartbeats 8000000 in
set_option maxRecDepth 100000 in
theorem renew_any {n : Nat} (HI : Hid (PCop n)) {hd : Hd} {t e : Fo} {l1 t1 e1 : Option Addr} {l3 t3 e3 g o : Nat} {W : World} (ht : t.size < n) (he : e.size < n) (htz : t.size ≤ 4000000) (hez : e.size ≤ 4000000) (hll : hd.list.length ≤ 10000000000) (hkt : Lok t) (hke : Lok e)
    (hE : Elt W g o hd (.slice l1 hd.list.length l3) (.slice t1 t.len t3) (.slice e1 e.len e3)) (hfz : ∀ j, W.frozen? ⟨g, j, none⟩ = false) (hL : Slc W (fun b => b ≠ g) hd.list.length (uCells hd.list) (.slice l1 hd.list.length l3)) (hT : Fov W (fun b => b ≠ g) t (.slice t1 t.len t3)) (hEe : Fov W (fun b => b ≠ g) e (.slice e1 e.len e3)) :
    Calls Tryd.prog 33 #[.pointer (some ⟨g, o, none⟩)] W fun r W' => r = .returned (.tuple #[]) ∧ (∃ l1 l3 t1 t3 e1 e3, Elt W' g o hd (.slice l1 hd.list.length l3) (.slice t1 t.len t3) (.slice e1 e.len e3) ∧ Slc W' (fun b => b ≠ g ∧ W.heap.size ≤ b) hd.list.length (uCells hd.list) (.slice l1 hd.list.length l3) ∧ Fov W' (fun b => b ≠ g ∧ W.heap.size ≤ b) t (.slice t1 t.len t3) ∧ Fov W' (fun b => b ≠ g ∧ W.heap.size ≤ b) e (.slice e1 e.len e3)) ∧ Ig g o W W' := by
  have hg := lt_of_cell hE.1
  obtain ⟨g0, g1, g2, g3, g4, g5, g6, g7, g8⟩ := hE
  have HL := hide hL
  have HT := hide hT
  have HEe := hide hEe
  have HZ := hide hfz
  have HE : Hid (W.cell? ⟨g, o, none⟩ = some (.int .i64 hd.op) ∧ W.cell? ⟨g, o + 1, none⟩ = some (.int .u8 hd.ty) ∧ W.cell? ⟨g, o + 2, none⟩ = some (.int .u32 hd.a) ∧ W.cell? ⟨g, o + 3, none⟩ = some (.int .u32 hd.b) ∧ W.cell? ⟨g, o + 4, none⟩ = some (.int .u64 hd.bits) ∧ W.cell? ⟨g, o + 6, none⟩ = some (.slice t1 t.len t3) ∧ W.cell? ⟨g, o + 7, none⟩ = some (.slice e1 e.len e3) ∧ W.cell? ⟨g, o + 8, none⟩ = some (.bool hd.has)) := hide ⟨g0, g1, g2, g3, g4, g6, g7, g8⟩
  have HQ := hide (And.intro hkt hke)
  clear hL hT hEe hfz g0 g1 g2 g3 g4 g6 g7 g8 hkt hke
  go_enter Tryd.func33, Tryd.ntmps33
  go_wp2_with fail
  refine (clonU_any (unhide HL) hll).mono ?_
  rintro _ w1 ⟨v', rfl, hS, hb⟩
  obtain ⟨p, s, rfl⟩ : ∃ p s, v' = .slice p hd.list.length s := by obtain ⟨p, s, h, _⟩ := hS; exact ⟨p, s, h⟩
  have c5 := keep1 hb hg g5
  have hI := (Ig.refl g o W).nil (Fr.of hb []) hg
  have f5 : w1.frozen? ⟨g, o + 5, none⟩ = false := (hI.frz _).trans (unhide HZ _)
  have hsz1 := hb.size
  have HS := hide ((hS.mono (P' := fun b => b ≠ g ∧ W.heap.size ≤ b) (fun b _ h => ⟨by intro q; subst q; omega, h⟩)).fr ((Fr.refl [g] w1).place (o + 5) (.slice p hd.list.length s)) (by simp))
  have HI1 := hide (hI.put (k := o + 5) (by omega) (by omega) (.slice p hd.list.length s))
  have HT := hide (((unhide HT).fr (Fr.of hb []) (by simp)).fr ((Fr.refl [g] w1).place (o + 5) (.slice p hd.list.length s)) (by simp))
  have HEe := hide (((unhide HEe).fr (Fr.of hb []) (by simp)).fr ((Fr.refl [g] w1).place (o + 5) (.slice p hd.list.length s)) (by simp))
  have s5 : (w1.setCell ⟨g, o + 5, none⟩ (.slice p hd.list.length s)).cell? ⟨g, o + 5, none⟩ = some (.slice p hd.list.length s) := cell_set_same c5
  have s6 : (w1.setCell ⟨g, o + 5, none⟩ (.slice p hd.list.length s)).cell? ⟨g, o + 6, none⟩ = some (.slice t1 t.len t3) := cell_set_off (by omega) (keep1 hb hg (unhide HE).2.2.2.2.2.1)
  have s7 : (w1.setCell ⟨g, o + 5, none⟩ (.slice p hd.list.length s)).cell? ⟨g, o + 7, none⟩ = some (.slice e1 e.len e3) := cell_set_off (by omega) (keep1 hb hg (unhide HE).2.2.2.2.2.2.1)
  have hsz : W.heap.size ≤ (w1.setCell ⟨g, o + 5, none⟩ (.slice p hd.list.length s)).heap.size := by simpa using hsz1
  clear hS hb hI g5
  go_wp2_with fail
  generalize hw2 : w1.setCell ⟨g, o + 5, none⟩ (.slice p hd.list.length s) = w2 at *
  refine (unhide HI t _ _ _ ht htz (unhide HQ).1 (unhide HT)).mono ?_
  rintro _ w3 ⟨p3, q3, rfl, hV, hF⟩
  have hI := (unhide HI1).nil hF hg
  have c6 := hF.keep s6 (by simp)
  have f6 : w3.frozen? ⟨g, o + 6, none⟩ = false := (hI.frz _).trans (unhide HZ _)
  have hsz3 := hF.size
  have hP3 : Fr [g] w3 (w3.setCell ⟨g, o + 6, none⟩ (.slice p3 t.len q3)) := (Fr.refl [g] w3).place _ _
  have HS := hide (((unhide HS).fr hF (by simp)).fr hP3 (by simp))
  have HV3 := hide ((hV.mono (P' := fun b => b ≠ g ∧ W.heap.size ≤ b) (fun b _ h => ⟨by intro q; subst q; omega, by omega⟩)).fr hP3 (by simp))
  have HEe := hide (((unhide HEe).fr hF (by simp)).fr hP3 (by simp))
  have HI1 := hide (hI.put (k := o + 6) (by omega) (by omega) (.slice p3 t.len q3))
  have s5 := cell_set_off (o := o + 5) (o' := o + 6) (v := .slice p3 t.len q3) (by omega) (hF.keep s5 (by simp))
  have s6 : (w3.setCell ⟨g, o + 6, none⟩ (.slice p3 t.len q3)).cell? ⟨g, o + 6, none⟩ = some (.slice p3 t.len q3) := cell_set_same c6
  have s7 : (w3.setCell ⟨g, o + 6, none⟩ (.slice p3 t.len q3)).cell? ⟨g, o + 7, none⟩ = some (.slice e1 e.len e3) := cell_set_off (by omega) (hF.keep s7 (by simp))
  have hsz4 : W.heap.size ≤ (w3.setCell ⟨g, o + 6, none⟩ (.slice p3 t.len q3)).heap.size := by simp; omega
  clear hV hF hI hP3
  go_wp2_with fail
  generalize hw4 : w3.setCell ⟨g, o + 6, none⟩ (.slice p3 t.len q3) = w4 at *
  refine (unhide HI e _ _ _ he hez (unhide HQ).2 (unhide HEe)).mono ?_
  rintro _ w5 ⟨p5, q5, rfl, hV, hF⟩
  have hI := (unhide HI1).nil hF hg
  have c7 := hF.keep s7 (by simp)
  have f7 : w5.frozen? ⟨g, o + 7, none⟩ = false := (hI.frz _).trans (unhide HZ _)
  have hsz5 := hF.size
  have hP5 : Fr [g] w5 (w5.setCell ⟨g, o + 7, none⟩ (.slice p5 e.len q5)) := (Fr.refl [g] w5).place _ _
  have HS := hide (((unhide HS).fr hF (by simp)).fr hP5 (by simp))
  have HV3 := hide (((unhide HV3).fr hF (by simp)).fr hP5 (by simp))
  have HV5 := hide ((hV.mono (P' := fun b => b ≠ g ∧ W.heap.size ≤ b) (fun b _ h => ⟨by intro q; subst q; omega, by omega⟩)).fr hP5 (by simp))
  have HI1 := hide (hI.put (k := o + 7) (by omega) (by omega) (.slice p5 e.len q5))
  have s5 := cell_set_off (o := o + 5) (o' := o + 7) (v := .slice p5 e.len q5) (by omega) (hF.keep s5 (by simp))
  have s6 := cell_set_off (o := o + 6) (o' := o + 7) (v := .slice p5 e.len q5) (by omega) (hF.keep s6 (by simp))
  have s7 : (w5.setCell ⟨g, o + 7, none⟩ (.slice p5 e.len q5)).cell? ⟨g, o + 7, none⟩ = some (.slice p5 e.len q5) := cell_set_same c7
  clear hV hF hI hP5
  go_wp2_with fail
  refine bodyPost_end (results_none rfl _ _ _) rfl ⟨rfl, ?_, unhide HI1⟩
  obtain ⟨e0, e1', e2, e3', e4, -, -, e8⟩ := unhide HE
  have hI := unhide HI1
  exact ⟨p, s, p3, q3, p5, q5, ⟨hI.cel _ _ e0 (by omega), hI.cel _ _ e1' (by omega), hI.cel _ _ e2 (by omega), hI.cel _ _ e3' (by omega), hI.cel _ _ e4 (by omega), s5, s6, s7, hI.cel _ _ e8 (by omega)⟩, unhide HS, unhide HV3, unhide HV5⟩
end Go.Proofs.YtalahdkgigcpfaaDoor
namespace Go.Proofs.YtalahdkgigcpfaaDoor
open Go.RowKit

theorem Fo.at_lt : ∀ {T : Fo} {i : Nat} {x : Hd × Fo × Fo}, T.at i = some x → i < T.len
  | .nil, _, _, h => by cases h
  | .cons _ _ _ r, 0, _, _ => Nat.succ_pos r.len
  | .cons _ _ _ r, i + 1, _, h => Nat.succ_lt_succ (Fo.at_lt (T := r) h)
/-- The clone's instructions, the first i of them new. -/
def Cl (W : World) (g i : Nat) (T : Fo) (w : World) : Prop := (∀ j, w.frozen? ⟨g, j, none⟩ = false) ∧ ∀ j hd t e, T.at j = some (hd, t, e) → ∃ l1 l3 t1 t3 e1 e3, Elt w g (j * 9) hd (.slice l1 hd.list.length l3) (.slice t1 t.len t3) (.slice e1 e.len e3) ∧ Slc w (fun b => b ≠ g ∧ (j < i → W.heap.size ≤ b)) hd.list.length (uCells hd.list) (.slice l1 hd.list.length l3) ∧ Fov w (fun b => b ≠ g ∧ (j < i → W.heap.size ≤ b)) t (.slice t1 t.len t3) ∧ Fov w (fun b => b ≠ g ∧ (j < i → W.heap.size ≤ b)) e (.slice e1 e.len e3)
theorem Cl.next {W w w' : World} {g i : Nat} {T : Fo} (h : Cl W g i T w) (hW : W.heap.size ≤ w.heap.size) {hd : Hd} {t e : Fo} (hat : T.at i = some (hd, t, e)) (hI : Ig g (i * 9) w w')
    (hn : ∃ l1 l3 t1 t3 e1 e3, Elt w' g (i * 9) hd (.slice l1 hd.list.length l3) (.slice t1 t.len t3) (.slice e1 e.len e3) ∧ Slc w' (fun b => b ≠ g ∧ w.heap.size ≤ b) hd.list.length (uCells hd.list) (.slice l1 hd.list.length l3) ∧ Fov w' (fun b => b ≠ g ∧ w.heap.size ≤ b) t (.slice t1 t.len t3) ∧ Fov w' (fun b => b ≠ g ∧ w.heap.size ≤ b) e (.slice e1 e.len e3)) : Cl W g (i + 1) T w' := by
  refine ⟨fun j => (hI.frz j).trans (h.1 j), fun j hd' t' e' hj => ?_⟩
  by_cases hji : j = i
  · subst hji
    rw [hat] at hj
    injection hj with hj
    injection hj with q1 hj
    injection hj with q2 q3
    subst q1; subst q2; subst q3
    obtain ⟨l1, l3, t1, t3, e1, e3, a1, a2, a3, a4⟩ := hn
    exact ⟨l1, l3, t1, t3, e1, e3, a1, a2.mono (fun b _ q => ⟨q.1, fun _ => by have := q.2; omega⟩), a3.mono (fun b _ q => ⟨q.1, fun _ => by have := q.2; omega⟩), a4.mono (fun b _ q => ⟨q.1, fun _ => by have := q.2; omega⟩)⟩
  · obtain ⟨l1, l3, t1, t3, e1, e3, ⟨g0, g1, g2, g3, g4, g5, g6, g7, g8⟩, a2, a3, a4⟩ := h.2 j hd' t' e' hj
    refine ⟨l1, l3, t1, t3, e1, e3, ⟨hI.cel _ _ g0 (by omega), hI.cel _ _ g1 (by omega), hI.cel _ _ g2 (by omega), hI.cel _ _ g3 (by omega), hI.cel _ _ g4 (by omega), hI.cel _ _ g5 (by omega), hI.cel _ _ g6 (by omega), hI.cel _ _ g7 (by omega), hI.cel _ _ g8 (by omega)⟩,
      (a2.fr hI.fr (by simp)).mono (fun b _ q => ⟨q.1, fun hl => q.2 (by omega)⟩), (a3.fr hI.fr (by simp)).mono (fun b _ q => ⟨q.1, fun hl => q.2 (by omega)⟩), (a4.fr hI.fr (by simp)).mono (fun b _ q => ⟨q.1, fun hl => q.2 (by omega)⟩)⟩
theorem Cl.fov {W w : World} {g cap : Nat} {T : Fo} (h : Cl W g T.len T w) (hg : W.heap.size ≤ g) (hc : T.len ≤ cap) : Fov w (fun b => W.heap.size ≤ b) T (.slice (some ⟨g, 0, none⟩) T.len cap) := by
  refine fov_build hg hc fun j hd t e hj => ?_
  obtain ⟨l1, l3, t1, t3, e1, e3, a1, a2, a3, a4⟩ := h.2 j hd t e hj
  have hl := Fo.at_lt hj
  exact ⟨_, _, _, a1, a2.mono (fun b _ q => q.2 hl), a3.mono (fun b _ q => q.2 hl), a4.mono (fun b _ q => q.2 hl)⟩
set_option maxHeartbeats 8000000 in
set_option maxRecDepth 100000 in
theorem copied_step {n : Nat} {T : Fo} {P : Nat → Prop} {v : Value} {W : World} (HI : Hid (PCop n)) (hs : T.size < n + 1) (hz : T.size ≤ 4000000) (hk : Lok T) (h : Fov W P T v) :
  Calls Tryd.prog 31 #[v] W fun r W' => ∃ p s, r = .returned (.slice p T.len s) ∧ Fov W' (fun b => W.heap.size ≤ b) T (.slice p T.len s) ∧ Fr [] W W' := by
  have hl := T.len_le
  have HC := hide (clonI_any h (by omega))
  have HK := hide hk
  obtain ⟨a, cap, rfl⟩ := h.slc
  clear h hk
  go_enter Tryd.func31, Tryd.ntmps31
  go_wp2_with fail
  refine (unhide HC).mono ?_
  rintro _ w1 ⟨v', cs, rfl, hR, hb⟩
  have hF0 := hR.fov rfl
  obtain ⟨p, s, rfl, hps, ho⟩ := hR.open
  have HF := hide (Fr.of hb [])
  rcases ho with h0 | ⟨g, rfl, hg, hgl, hfz, hel⟩
  · have hT := fo_nil h0
    have H0 := hide h0
    have HV : Hid (Fov w1 (fun b => W.heap.size ≤ b) T (.slice p T.len s)) := hide (by
      obtain ⟨cs, hE, a, cap, h1, h2, h3, h4⟩ := hF0
      subst hT
      refine ⟨cs, hE, a, cap, h1, h2, h3, h4.imp id ?_⟩
      rintro ⟨b, off, h5, h6, h7⟩
      exact ⟨b, off, h5, fun h => absurd h (Nat.lt_irrefl 0), h7⟩)
    rw [h0]
    clear hF0 hR hb
    go_wp2_with fail
    go_loopw [8] (fun v8 wr => v8 = .int .i64 (0 : Int) ∧ wr = w1) (fun v8 _ => 0)
    case atStart => exact ⟨rfl, rfl⟩
    case round =>
      obtain ⟨rfl, rfl⟩ := hrel
      go_wp2_with fail
      go_ret
      exact ⟨p, s, by rw [unhide H0]; rfl, unhide HV, unhide HF⟩
  · have HCl : Hid (Cl W g 0 T w1) := hide ⟨hfz, fun j hd t e hj => by
      obtain ⟨l1, l3, t1, t3, e1, e3, a1, a2, a3, a4⟩ := hel j hd t e hj
      exact ⟨l1, l3, t1, t3, e1, e3, a1, a2.mono (fun b _ q => ⟨q, fun h => absurd h (Nat.not_lt_zero _)⟩), a3.mono (fun b _ q => ⟨q, fun h => absurd h (Nat.not_lt_zero _)⟩), a4.mono (fun b _ q => ⟨q, fun h => absurd h (Nat.not_lt_zero _)⟩)⟩⟩
    clear hF0 hR hb hfz hel
    go_wp2_with fail
    go_loopw [8] (fun v8 wr => ∃ i : Nat, i ≤ T.len ∧ v8 = .int .i64 (i : Int) ∧ Cl W g i T wr ∧ Fr [] W wr) (fun v8 _ => T.len - (intOf v8).toNat)
    case atStart => exact ⟨0, Nat.zero_le _, rfl, unhide HCl, unhide HF⟩
    case round =>
      obtain ⟨i, hi, rfl, hC, hF⟩ := hrel
      by_cases hlt : i < T.len
      · obtain ⟨⟨hd, t, e⟩, hat⟩ := Fo.at_some hlt
        have hsz := Fo.at_size hat
        obtain ⟨k1, k2, k3⟩ := (unhide HK).at hat
        obtain ⟨l1, l3, t1, t3, e1, e3, a1, a2, a3, a4⟩ := hC.2 i hd t e hat
        have HR := hide (renew_any HI (by omega) (by omega) (by omega) (by omega) k1 k2 k3 a1 hC.1 (a2.mono (fun b _ q => q.1)) (a3.mono (fun b _ q => q.1)) (a4.mono (fun b _ q => q.1)))
        have HCl := hide hC
        have HF := hide hF
        have HAt := hide hat
        have hi' : (i : Int) < (T.len : Int) := by omega
        have hi2 : (0 : Int) ≤ (i : Int) := by omega
        clear hC hF hat a1 a2 a3 a4
        go_wp2_with fail
        refine (unhide HR).mono ?_
        rintro _ w2 ⟨rfl, hn, hI⟩
        have HCl := hide ((unhide HCl).next (unhide HF).size (unhide HAt) hI hn)
        have HF := hide ((unhide HF).thenL (l := []) hI.fr (by simp; omega))
        clear hn hI
        go_wp2_with fail
        exact ⟨⟨i + 1, by omega, by go_num, unhide HCl, unhide HF⟩, by simp [intOf]; omega⟩
      · obtain rfl : i = T.len := by omega
        have HV := hide (hC.fov hg hps)
        have HF := hide hF
        clear hC hF
        go_wp2_with fail
        go_ret
        exact ⟨_, s, rfl, unhide HV, unhide HF⟩
theorem copied_any : ∀ n, PCop n
  | 0 => fun _ _ _ _ h _ _ _ => absurd h (Nat.not_lt_zero _)
  | n + 1 => fun _ _ _ _ h hz hk hh => copied_step (hide (copied_any n)) h hz hk hh
end Go.Proofs.YtalahdkgigcpfaaDoor
namespace Go.Proofs.YtalahdkgigcpfaaDoor
open Go.RowKit
attribute [local go_sem] Oper.semAt_some

/-- What Each tells: how deep it lies and its opcode are said. -/
abbrev Ot := { x : It // x.b ≤ 4000000 ∧ x.op ≤ 9223372036854775807 }
abbrev enO (x : Ot) : Array Value := #[.int .i64 (x.1.b : Int), x.1.agg]
def bopO (x : Ot) : Nat × Int := (x.1.b, x.1.op)
theorem Slc.kp {W0 w' : World} {P : Nat → Prop} {Kp : World → World → Prop} {n : Nat} {cs : List Value} {v : Value} (h : Slc W0 P n cs v) (hk : Kps W0 P Kp) (hf : Kp W0 w') : Slc w' P n cs v := by
  obtain ⟨a, cap, h1, h2, h3, h4⟩ := h
  refine ⟨a, cap, h1, h2, h3, ?_⟩
  rcases h4 with h4 | ⟨b, off, h5, h6, h7⟩
  · exact .inl h4
  · refine .inr ⟨b, off, h5, h6, fun j u hj => hk.old _ _ _ hf (h7 j u hj) (h6 ?_)⟩
    apply Nat.pos_of_ne_zero
    intro h0
    rw [h3.1 h0] at hj
    cases hj
theorem Enc.kp {W0 w' : World} {P : Nat → Prop} {Kp : World → World → Prop} (hk : Kps W0 P Kp) (hf : Kp W0 w') : ∀ {T : Fo} {cs : List Value}, Enc W0 P T cs → Enc w' P T cs
  | .nil, _, h => h
  | .cons _ _ _ _, _, ⟨vl, vt, ve, rest, h1, h2, ⟨ct, h3, h4⟩, ⟨ce, h5, h6⟩, h7⟩ => ⟨vl, vt, ve, rest, h1, h2.kp hk hf, ⟨ct, Enc.kp hk hf h3, h4.kp hk hf⟩, ⟨ce, Enc.kp hk hf h5, h6.kp hk hf⟩, Enc.kp hk hf h7⟩
theorem Fov.kp {W0 w' : World} {P : Nat → Prop} {Kp : World → World → Prop} {T : Fo} {v : Value} (h : Fov W0 P T v) (hk : Kps W0 P Kp) (hf : Kp W0 w') : Fov w' P T v := by
  obtain ⟨cs, h1, h2⟩ := h
  exact ⟨cs, h1.kp hk hf, h2.kp hk hf⟩
theorem cells_of_cell {W : World} {a : Addr} {v : Value} (h : W.cell? a = some v) : ∃ o : Obj, W.heap[a.block]? = some o ∧ o.isCells = true := by
  unfold World.cell? at h
  cases ho : W.heap[a.block]? with
  | none => simp [ho] at h
  | some o => exact ⟨o, rfl, by cases o <;> simp_all [Obj.isCells]⟩
theorem roundIn_in {F : Fence} {n : Nat} {P : Program} {l l2 : Nat} {f : FuncId} {tmps : Array Value} {assign body : Code} {w : World} {R : Ending → World → Prop} (h : RoundIn F n P l f tmps assign body w R) : RoundIn (F.inRound l2) n P l f tmps assign body w R := h
theorem Kr.fr1 {bx : List Nat} {A B C : World} {g : Nat} (h : Kr bx A B) (hf : Fr [g] B C) (hg : A.heap.size ≤ g) (hb : ∀ i ∈ bx, i < B.heap.size ∧ i ≠ g) : Kr bx A C := by
  have h1 := h.size
  have h2 := hf.size
  refine ⟨by omega, fun p v hp hn => hf.keep (h.cell p v hp hn) (fun hm => ?_), fun b q => ?_⟩
  · have := World.block_lt_of_cell? A p hp
    simp at hm
    omega
  · rcases h.row b (q.of fun i hi => ⟨(hb i hi).1, hf.block i (hb i hi).1 (by simpa using (hb i hi).2)⟩) with q | q
    · exact .inl q
    · exact .inr (by omega)
theorem keepsFrom_fr1 {A B : World} {g M : Nat} {v : Value} (hf : Fr [g] A B) (hc : A.cell? ⟨g, 0, none⟩ = some v) : KeepsFrom M A B := by
  refine ⟨hf.size, fun k o _ ho ho2 => (hf.block k (Array.getElem?_eq_some_iff.1 ho).1 (fun hm => ?_)).trans ho⟩
  simp at hm
  subst hm
  unfold World.cell? at hc
  rw [ho] at hc
  cases o <;> simp_all [Obj.isCells]
theorem keepsFrom_up {A B : World} {M N : Nat} (h : KeepsFrom M A B) (hm : M ≤ N) : KeepsFrom N A B := ⟨h.size, fun k o hk => h.same k o (by omega)⟩
set_option maxHeartbeats 8000000 in
set_option maxRecDepth 100000 in
theorem each1_in {bx : List Nat} {P : Nat → Prop} (l n g : Nat) (T : Fo) (v : Value) (W : World) (hw : Lw T) (hlk : Lok T) (hz : T.size ≤ 4000000) (hF0 : Fov W P T v) (hP : ∀ b, P b → b < W.heap.size) (hg : W.cell? ⟨g, 0, none⟩ = some v) (J : List Ot → World → Prop) (hbx : ∀ i ∈ bx, i < W.heap.size)
    (hJ : ∀ s V V', J s V → Th bx W.heap.size V V' → J s V') (hJw : ∀ s V, J s V → ∀ b, Rwb bx V b → b < V.heap.size ∧ ¬ P b)
    (hY : ∀ m pre (x : Ot) V, J pre V → pre.length < T.size → YieldAt Fence.wide m Tryd.prog l (enO x) V fun e V' => e = .returned (.bool true) ∧ J (pre ++ [x]) V' ∧ Kr bx V V' ∧ KeepsFrom W.heap.size V V') (h0 : J [] W) :
    CallsIn Fence.wide n Tryd.prog 32 #[.func (.yield l) #[] #[], .pointer (some ⟨g, 0, none⟩)] W fun e W' => (∃ v, e = .returned v) ∧ ∃ ys : List Ot, ys.map bopO = tellP 0 T ∧ J ys W' := by
  obtain ⟨a, cap, rfl⟩ := hF0.slc
  have hgl := lt_of_cell hg
  refine callsIn_wide.2 ((callsIn_wide (n := 9)).1 ?_)
  refine callsIn_of_wp_marks Tryd.func32 rfl trivial ?_ rfl
  simp only [Tryd.ntmps32, List.size_toArray, List.length_cons, List.length_nil, Nat.reduceAdd, Nat.reduceSub, Array.replicate_succ, Array.replicate_zero, List.push_toArray, List.append_toArray, List.nil_append, List.cons_append]
  gi_wp2
  refine ⟨trivial, callsIn_wide.2 ((all_any _ a T.len cap rfl _).mono ?_)⟩
  rintro e w2 ⟨rfl, rfl⟩
  have hbB := below2 W (.cells #[.func (.yield l) #[] #[]] 78) (.cells #[.slice a T.len cap] 29)
  have c0 : ((W.alloc (.cells #[.func (.yield l) #[] #[]] 78)).alloc (.cells #[.slice a T.len cap] 29)).cell? ⟨W.heap.size, 0, none⟩ = some (.func (.yield l) #[] #[]) := by simp [go_sem]
  have c1 : ((W.alloc (.cells #[.func (.yield l) #[] #[]] 78)).alloc (.cells #[.slice a T.len cap] 29)).cell? ⟨W.heap.size + 1, 0, none⟩ = some (.slice a T.len cap) := by simp [go_sem]
  have hz2 : ((W.alloc (.cells #[.func (.yield l) #[] #[]] 78)).alloc (.cells #[.slice a T.len cap] 29)).heap.size = W.heap.size + 2 := by simp
  gi_wp2
  (try rw [show (W.alloc (.cells #[.func (.yield l) #[] #[]] 78)).heap.size = W.heap.size + 1 by simp])
  generalize (W.alloc (.cells #[.func (.yield l) #[] #[]] 78)).alloc (.cells #[.slice a T.len cap] 29) = w2 at *
  have hFw := hF0.fr (Fr.of hbB []) (by simp)
  have hbw : ∀ i ∈ bx, i < w2.heap.size := fun i hi => by have := hbx i hi; omega
  have hRw : ∀ b, Rwb bx w2 b → b < w2.heap.size ∧ ¬ P b := fun b q => by
    have := hJw _ _ h0 b (q.of fun i hi => ⟨hbx i hi, hbB.block i (hbx i hi)⟩)
    exact ⟨by omega, this.2⟩
  have hKp : Kps w2 P (Kr bx) := Kr.kps hbw hRw
  refine range_t rfl (by omega) (gf := 40) (lb := #[.pointer (some ⟨W.heap.size + 1, 0, none⟩)]) rfl trivial (enters_of Tryd.func40 (by kernel_rfl) rfl) (encs := en2 (W0 := w2) (P := P)) (S := fun ys => ys.map bop2 = tellP 0 T) (N := T.size) (fun _ => rfl)
    (Kr bx) (fun V V' => ∃ o, V' = V.alloc o)
    (fun pre V => (∃ ys : List Ot, ys.map bopO = pre.map bop2 ∧ J ys V) ∧ V.cell? ⟨W.heap.size, 0, none⟩ = some (.func (.yield l) #[] #[]) ∧ Kr bx w2 V) ?seq ?hTn ?hKb ?hI ?hIT ?h0
    (fun V0 x a' V => ∃ Bx, (w2.heap.size ≤ Bx ∧ V0.heap.size ≤ Bx ∧ ¬ Rwb bx V Bx) ∧ Kr bx V0 V ∧ Elt V Bx 0 ⟨x.1.op, x.1.ty, x.1.a, x.1.c, x.1.bits, x.1.list, x.1.has⟩ (.slice x.1.l1 x.1.list.length x.1.l3) (.slice x.1.t1 x.1.t.len x.1.t3) (.slice x.1.e1 x.1.e.len x.1.e3) ∧ (∀ j, V.frozen? ⟨Bx, j, none⟩ = false) ∧
      a' = { tmps := #[.func (.yield l) #[] #[], .pointer (some ⟨g, 0, none⟩), .pointer (some ⟨W.heap.size, 0, none⟩), .int .i64 (x.1.b : Int), .pointer (some ⟨Bx, 0, none⟩), .slice a T.len cap, .func (.func 40) #[] #[.pointer (some ⟨W.heap.size + 1, 0, none⟩)], .int .i64 (x.1.b : Int), x.1.agg, undef, undef, undef, undef, undef, undef], defers := [] }) ?hAx ?assign ?body ?done
  case hTn => rintro _ V _ _ ⟨o, rfl⟩ k o' _ hk _; exact (Below.heap_alloc _ _ _ (Array.getElem?_eq_some_iff.1 hk).1).trans hk
  case hKb =>
    intro A B r r' hK hB
    exact hK.put (fun i hi => by have := hbw i hi; have := (Array.getElem?_eq_some_iff.1 hB).1; omega) hB rfl _
  case hI =>
    rintro _ A B row ⟨⟨ys, h1, hj⟩, hc, hk⟩ hg hr
    have hs := hk.size
    exact ⟨⟨ys, h1, hJ _ _ _ hj (Th.grown hg hr (by omega) (by omega))⟩, cell_kept hc hg (fun r e => (hr r e).2), hk.trans (Kr.grown hg hr hbw hs)⟩
  case hIT =>
    rintro _ V _ ⟨⟨ys, h1, hj⟩, hc, hk⟩ ⟨o, rfl⟩
    have hs := hk.size
    exact ⟨⟨ys, h1, hJ _ _ _ hj (Th.of (below1 V o) (by omega))⟩, keep1 (below1 V o) (lt_of_cell hc) hc, hk.trans (Kr.of (fun i hi => by have := hbw i hi; omega) (below1 V o))⟩
  case h0 => exact ⟨⟨[], rfl, hJ _ _ _ h0 (Th.of hbB (Nat.le_refl _))⟩, c0, Kr.refl _ _⟩
  case hAx =>
    rintro V0 x a' A r r' ⟨Bx, ⟨h1, h2, h3⟩, h4, h5, h6, h7⟩ hrec
    obtain ⟨B, row, hBe, hg, hr⟩ : ∃ (B : World) (row : Option Nat), B = A.putObj (w2.heap.size + 1) (.loop r') ∧ A.grownBy B row ∧ ∀ r, row = some r → w2.heap.size ≤ r ∧ ∃ o : Obj, A.heap[r]? = some o ∧ o.isCells = false := ⟨_, _, rfl, grownBy_putObj' _ _ _, fun r e => by cases e; exact ⟨by omega, _, hrec, rfl⟩⟩
    rw [← hBe]
    have hl := lt_of_cell h5.1
    refine ⟨Bx, ⟨h1, h2, fun q => h3 (q.of fun i hi => ?_)⟩, h4.trans (Kr.grown hg hr hbw (by omega)), h5.all (fun j v hv => cell_kept hv hg (fun r e => (hr r e).2)), fun j => ?_, h7⟩
    · have := hbw i hi
      exact ⟨by omega, hg.block i (by omega) (fun e => by have := (hr i e.symm).1; omega)⟩
    · refine (World.frozen?_of_block (w := A) (hg.block Bx hl (fun e => ?_))).trans (h6 j)
      obtain ⟨_, o, ho, hn⟩ := hr Bx e.symm
      obtain ⟨o', ho', hn'⟩ := cells_of_cell h5.1
      rw [ho] at ho'
      cases ho'
      rw [hn] at hn'
      cases hn'
  case seq =>
    intro l2 J2 W2 hl hsz hb hJ2 _ hY2 h02
    refine (all12_in hKp l2 (9 - 1) (W.heap.size + 1) T _ hw hlk hFw hz J2 (fun _ _ => False) (fun s V o h => hJ2 _ _ _ h ⟨o, rfl⟩) (fun pre x V hj hl => (hY2 pre x V hj hl).mono (fun e w h => .inl h)) W2 (Kr.of hbw hb) (keep1 hb (lt_of_cell c1) c1) h02).mono ?_
    rintro e W' ⟨h1, ⟨ys, h2, h3⟩ | ⟨q, _, h⟩⟩
    · exact ⟨h1, ys, h2, h3⟩
    · exact h.elim
  case assign =>
    rintro l2 pre ⟨⟨b, op, ty, aa, bb, bits, li, has, t, e, l1, l3, t1, t3, e1, e3⟩, hgd⟩ V K hl ⟨⟨ys, hys, hj⟩, hc, hk⟩ hK
    have hs := hk.size
    dsimp only [en2, It.agg] at hK ⊢
    have hwf := fun b => hJw _ _ hj b
    have hba := below1 V (.cells #[.int .i64 op, .int .u8 ty, .int .u32 aa, .int .u32 bb, .int .u64 bits, .slice l1 li.length l3, .slice t1 t.len t3, .slice e1 e.len e3, .bool has] 50)
    have hkr := Kr.of (bx := bx) (fun i hi => by have := hbw i hi; omega) hba
    have HQ : Hid ((∃ ys : List Ot, ys.map bopO = pre.map bop2 ∧ J ys (V.alloc (.cells #[.int .i64 op, .int .u8 ty, .int .u32 aa, .int .u32 bb, .int .u64 bits, .slice l1 li.length l3, .slice t1 t.len t3, .slice e1 e.len e3, .bool has] 50))) ∧ (V.alloc (.cells #[.int .i64 op, .int .u8 ty, .int .u32 aa, .int .u32 bb, .int .u64 bits, .slice l1 li.length l3, .slice t1 t.len t3, .slice e1 e.len e3, .bool has] 50)).cell? ⟨W.heap.size, 0, none⟩ = some (.func (.yield l) #[] #[]) ∧ Kr bx w2 (V.alloc (.cells #[.int .i64 op, .int .u8 ty, .int .u32 aa, .int .u32 bb, .int .u64 bits, .slice l1 li.length l3, .slice t1 t.len t3, .slice e1 e.len e3, .bool has] 50))) :=
      hide ⟨⟨ys, hys, hJ _ _ _ hj (Th.of hba (by omega))⟩, keep1 hba (lt_of_cell hc) hc, hk.trans hkr⟩
    have HK := hide hK
    have HR := hide hkr
    have HB : Hid (¬ Rwb bx (V.alloc (.cells #[.int .i64 op, .int .u8 ty, .int .u32 aa, .int .u32 bb, .int .u64 bits, .slice l1 li.length l3, .slice t1 t.len t3, .slice e1 e.len e3, .bool has] 50)) V.heap.size) := hide fun q => by
      have := (hwf _ (q.of fun i hi => ⟨by have := hbw i hi; omega, hba.block i (by have := hbw i hi; omega)⟩)).1
      omega
    clear hK hkr hba hwf hys hj hc
    gi_wp2
    refine unhide HK _ _ ((KeepsOthers.alloc _ _).from _) (unhide HQ) ⟨V.heap.size, ⟨hs, Nat.le_refl _, unhide HB⟩, unhide HR, ?_, ?_, rfl⟩
    · refine ⟨?_, ?_, ?_, ?_, ?_, ?_, ?_, ?_, ?_⟩
      all_goals simp [go_sem]
    · intro j
      simp [go_sem]
  case body =>
    rintro l2 pre ⟨⟨b, op, ty, aa, bb, bits, li, has, t, e, l1, l3, t1, t3, e1, e3⟩, hgd⟩ V0 a' V hl ⟨⟨ys, hys, hj⟩, hc, hk⟩ ⟨Bx, ⟨hB1, hB2, hB3⟩, hx4, hE, hfz, rfl⟩ hlen
    dsimp only at hE ⊢
    have hgd' := hgd
    obtain ⟨⟨⟨gb, gop⟩, gL, gT, gE⟩, gts, ges, gll, gkt, gke⟩ := hgd'
    dsimp only at gb gop gL gT gE gts ges gll gkt gke
    have hs := hk.size
    have hPB : ∀ q, q < V.heap.size → P q → q ≠ Bx := fun q _ h => by have := hP q h; omega
    have hC := renew_any (n := 4000001) (hide (copied_any _)) (hd := ⟨op, ty, aa, bb, bits, li, has⟩) (t := t) (e := e) (by omega) (by omega) gts ges gll gkt gke hE hfz ((gL.kp hKp hk).mono hPB) ((gT.kp hKp hk).mono hPB) ((gE.kp hKp hk).mono hPB)
    gi_wp2
    refine ⟨trivial, CallsIn.inRound l2 (callsIn_wide.2 (hC.mono ?_))⟩
    clear hC
    rintro e V1 ⟨rfl, ⟨m1, m3, n1, n3, o1, o3, hE1, -, -, -⟩, hI1⟩
    have hYB : W.heap.size ≠ Bx := by omega
    have hnY : ¬ Rwb bx V1 W.heap.size := fun q => by
      rcases hk.row _ (q.of fun i hi => ⟨by have := hbw i hi; omega, hI1.fr.block i (by have := hbw i hi; omega) (by have := hbw i hi; simp; omega)⟩) with q | q
      · have := hJw _ _ h0 _ (q.of fun i hi => ⟨hbx i hi, hbB.block i (hbx i hi)⟩)
        omega
      · omega
    have hj1 : J ys V1 := hJ _ _ _ hj (Th.fr hI1.fr (by omega) (by omega) hB3)
    have c10 := hI1.fr.keep hc (by simpa using hYB)
    have hk01 := hx4.fr1 hI1.fr hB2 (fun i hi => by have := hbw i hi; omega)
    have hk21 := hk.fr1 hI1.fr hB1 (fun i hi => by have := hbw i hi; omega)
    have hkf : KeepsFrom w2.heap.size V V1 := keepsFrom_fr1 hI1.fr hE.1
    have hylen : ys.length = pre.length := by
      have := congrArg List.length hys
      rwa [List.length_map, List.length_map] at this
    obtain ⟨fn, tmps, assign, body, hy, hR⟩ := hY 6 ys ⟨⟨b, op, ty, aa, bb, bits, li, has, t, e, m1, m3, n1, n3, o1, o3⟩, gb, gop⟩ V1 hj1 (by omega)
    dsimp only [enO, It.agg] at hy
    obtain ⟨g0, g1, g2, g3, g4, g5, g6, g7, g8⟩ := hE1
    simp only [Nat.zero_add] at g0 g1 g2 g3 g4 g5 g6 g7 g8
    have HX := hide (And.intro hk01 (And.intro hk21 hkf))
    have HYs := hide hys
    have HN := hide (And.intro hnY c10)
    clear hj hj1 hc hk hx4 hE hfz hlen gL gT gE hB3 hI1 hk01 hk21 hkf hys hnY hbB c0 c1 hFw hRw hKp hF0 hylen
    gi_wp2
    refine (roundIn_in hR).mono ?_
    clear hR hy
    rintro e V2 ⟨rfl, hj2, hk2, hf2⟩
    obtain ⟨hk01, hk21, hkf⟩ := unhide HX
    have c20 := hk2.cell _ _ (unhide HN).2 (unhide HN).1
    have HE : Hid (KeepsFrom w2.heap.size V V2 ∧ Kr bx V0 V2 ∧ ((∃ ys : List Ot, ys.map bopO = (pre ++ [(⟨_, hgd⟩ : Gx2 w2 P)]).map bop2 ∧ J ys V2) ∧ V2.cell? ⟨W.heap.size, 0, none⟩ = some (.func (.yield l) #[] #[]) ∧ Kr bx w2 V2)) :=
      hide ⟨hkf.trans (keepsFrom_up hf2 (by omega)), hk01.trans hk2, ⟨_, by rw [List.map_append, List.map_append, unhide HYs]; rfl, hj2⟩, c20, hk21.trans hk2⟩
    clear hj2 hk2 hf2 hk01 hk21 hkf c20 g0 g1 g2 g3 g4 g5 g6 g7 g8
    gi_wp2
    exact unhide HE
  case done =>
    rintro xs V hS ⟨⟨ys, hys, hj⟩, hc, hk⟩ hD
    have hs := hk.size
    gi_wp2
    refine ⟨by simp, .inl ⟨_, _, rfl, run_takeDeferred hD, ?_⟩⟩
    exact ⟨_, results_none rfl _ _ _, ⟨_, rfl⟩, ys, hys.trans hS, hJ _ _ _ hj (Th.grown (grownBy_putObj' _ _ _) (fun r e => by cases e; exact ⟨Nat.le_refl _, _, hD, rfl⟩) (by omega) (by omega))⟩
end Go.Proofs.YtalahdkgigcpfaaDoor
