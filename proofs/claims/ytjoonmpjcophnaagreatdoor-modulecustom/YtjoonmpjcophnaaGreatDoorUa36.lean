/- MsA, MdD, MdE, MdF, MdG, CeD, CeB. -/
import Derived.Test.YtjoonmpjcophnaaGreatDoorUa33
import Derived.Test.YtjoonmpjcophnaaGreatDoorUa34
namespace Go.Proofs.YtjoonmpjcophnaaGreatDoor
open Go.RowKit

set_option maxHeartbeats 4000000 in
set_option maxRecDepth 100000 in
theorem sameplaces_any {L : List Int} {P P' : Nat → Prop} {v1 v2 : Value} {W : World} (hx : L.length ≤ 4000000) (h1 : Slc W P L.length (uCells L) v1) (h2 : Slc W P' L.length (uCells L) v2) : Calls Tryz.prog 32 #[v1, v2] W fun r W' => r = .returned (.bool true) ∧ Fr [] W W' := by
  obtain ⟨a1, c1, rfl, -, -, h1⟩ := h1
  obtain ⟨a2, c2, rfl, -, -, h2⟩ := h2
  have H1 := hide h1
  have H2 := hide h2
  clear h1 h2
  go_enter Tryz.func32, Tryz.ntmps32
  go_wp2_with fail
  go_loopw [5] (fun v5 wr => ∃ (i : Nat), i ≤ L.length ∧ v5 = .int .i64 (i : Int) ∧ Fr [] W wr) (fun v5 _ => L.length - (intOf v5).toNat)
  case atStart => exact ⟨0, by omega, rfl, Fr.refl _ _⟩
  case round =>
    obtain ⟨i, hi, rfl, hF⟩ := hrel
    by_cases hlt : i < L.length
    · have hi' : (i : Int) < (L.length : Int) := by omega
      have hi2 : (0 : Int) ≤ (i : Int) := by omega
      rcases unhide H1 with ⟨h0, _⟩ | ⟨b1, o1, rfl, -, k1⟩
      · omega
      rcases unhide H2 with ⟨h0, _⟩ | ⟨b2, o2, rfl, -, k2⟩
      · omega
      have hat : (uCells L)[i]? = some (.int .u32 L[i]) := by simp [uCells, hlt]
      have g1 := hF.keep (k1 i _ hat) (by simp)
      have g2 := hF.keep (k2 i _ hat) (by simp)
      have HF := hide hF
      clear k1 k2 hF hat
      generalize L[i] = x at *
      go_wp2_with fail
      go_quiet (fail)
      go_wp2_with fail
      have HF := hide ((unhide HF).drewN nq)
      exact ⟨⟨i + 1, by omega, by go_num, unhide HF⟩, by simp [intOf]; omega⟩
    · obtain rfl : i = L.length := by omega
      have HF := hide hF
      clear hF
      go_wp2_with fail
      go_ret
      exact ⟨rfl, unhide HF⟩
set_option maxHeartbeats 4000000 in
set_option maxRecDepth 100000 in
theorem samelimits_any {L : List Lm} {P P' : Nat → Prop} {v1 v2 : Value} {W : World} (hx : L.length ≤ 4000000) (h1 : Sls eLim W P L v1) (h2 : Sls eLim W P' L v2) : Calls Tryz.prog 30 #[v1, v2] W fun r W' => r = .returned (.bool true) ∧ Fr [] W W' := by
  obtain ⟨a1, c1, rfl, -, h1⟩ := h1.open
  obtain ⟨a2, c2, rfl, -, h2⟩ := h2.open
  have H1 := hide h1
  have H2 := hide h2
  clear h1 h2
  go_enter Tryz.func30, Tryz.ntmps30
  go_wp2_with fail
  go_loopw [5] (fun v5 wr => ∃ (i : Nat), i ≤ L.length ∧ v5 = .int .i64 (i : Int) ∧ Fr [] W wr) (fun v5 _ => L.length - (intOf v5).toNat)
  case atStart => exact ⟨0, by omega, rfl, Fr.refl _ _⟩
  case round =>
    obtain ⟨i, hi, rfl, hF⟩ := hrel
    by_cases hlt : i < L.length
    · have hi' : (i : Int) < (L.length : Int) := by omega
      have hi2 : (0 : Int) ≤ (i : Int) := by omega
      rcases unhide H1 with h0 | ⟨b1, o1, rfl, -, k1⟩
      · omega
      rcases unhide H2 with h0 | ⟨b2, o2, rfl, -, k2⟩
      · omega
      obtain ⟨_, rfl, k1⟩ := k1 i L[i] (List.getElem?_eq_getElem hlt)
      obtain ⟨_, rfl, k2⟩ := k2 i L[i] (List.getElem?_eq_getElem hlt)
      generalize L[i] = x at *
      have g10 := hF.keep (k1 0 (by decide)) (by simp)
      have g11 := hF.keep (k1 1 (by decide)) (by simp)
      have g12 := hF.keep (k1 2 (by decide)) (by simp)
      have g20 := hF.keep (k2 0 (by decide)) (by simp)
      have g21 := hF.keep (k2 1 (by decide)) (by simp)
      have g22 := hF.keep (k2 2 (by decide)) (by simp)
      change wr.cell? ⟨b1, o1 + i * 3, none⟩ = some (.int .u32 x.1) at g10
      change wr.cell? ⟨b1, o1 + i * 3 + 1, none⟩ = some (.int .u32 x.2.1) at g11
      change wr.cell? ⟨b1, o1 + i * 3 + 2, none⟩ = some (.bool x.2.2) at g12
      change wr.cell? ⟨b2, o2 + i * 3, none⟩ = some (.int .u32 x.1) at g20
      change wr.cell? ⟨b2, o2 + i * 3 + 1, none⟩ = some (.int .u32 x.2.1) at g21
      change wr.cell? ⟨b2, o2 + i * 3 + 2, none⟩ = some (.bool x.2.2) at g22
      have HF := hide hF
      clear k1 k2 hF
      go_wp2_with fail
      go_quiet (fail)
      go_wp2_with fail
      have HF := hide ((unhide HF).drewN nq)
      exact ⟨⟨i + 1, by omega, by go_num, unhide HF⟩, by simp [intOf]; omega⟩
    · obtain rfl : i = L.length := by omega
      have HF := hide hF
      clear hF
      go_wp2_with fail
      go_ret
      exact ⟨rfl, unhide HF⟩
end Go.Proofs.YtjoonmpjcophnaaGreatDoor
namespace Go.Proofs.YtjoonmpjcophnaaGreatDoor
open Go.RowKit

section
variable {c : Nat} {a : Option Addr} {len cap k : Nat} {xs : List Int} {e : Int} {W : World}
/-- What a piece leaves behind: its own failure, or that some of it is left. -/
def doneE (e e2 : Int) (k2 n : Nat) : Int := if e ≠ 0 then e else if e2 ≠ 0 then e2 else if k2 < n then 105 else 0
theorem rd_alone {A : Type} {f : Rr A} {ys : List Int} {y : A} {k2 : Nat} {e2 : Int} {k' : Nat} (h : Rd f ys 0 e y k2 e2) : Rd (alone f ys) xs k' e y k' (doneE e e2 k2 ys.length) := by
  refine ⟨fun he => ⟨rfl, if_pos he⟩, fun he => ?_, fun he h0 => ?_⟩
  · subst he
    obtain ⟨h1, h2⟩ := h.live rfl
    rw [List.drop_zero] at h1 h2
    refine ⟨rfl, ?_⟩
    unfold doneE alone
    rw [if_neg (by simp), h1, h2, Nat.zero_add]
    by_cases q : (f ys).2.2 = 0
    · simp [q]
    · simp [q]
  · subst he
    have hv := h.val rfl
    rw [List.drop_zero] at hv
    refine hv ?_
    apply Decidable.byContradiction
    intro hn
    unfold doneE at h0
    rw [if_neg (by simp), if_pos hn] at h0
    exact hn h0
theorem Rd.pc {A : Type} {z : A} {f : Rr A} {ys : List Int} {y : A} {k' k2 : Nat} {e' e2 : Int} (h1 : Rd rBytes xs k e ys k' e') (h2 : Rd f ys 0 e' y k2 e2) : Rd (rPc z f) xs k e y k' (doneE e' e2 k2 ys.length) := h1.bd (rd_alone h2)
end
end Go.Proofs.YtjoonmpjcophnaaGreatDoor
namespace Go.Proofs.YtjoonmpjcophnaaGreatDoor
open Go.RowKit

theorem Rd.more {A B : Type} {f : Rr A} {xs : List Int} {k k2 k3 n : Nat} {e e3 : Int} {L : List A} {y : A} (g : List A → B) {G : Rr B} (HK : ∀ s k' e', Rd (repR f (n + 1)) xs k2 0 s k' e' → Rd G xs k e (g (L ++ s)) k' e') (h : Rd f xs k2 0 y k3 e3) :
    ∀ s k' e', Rd (repR f n) xs k3 e3 s k' e' → Rd G xs k e (g (L ++ [y] ++ s)) k' e' := fun s k' e' hs => by
  rw [List.append_assoc]
  exact HK _ _ _ (h.bd (hs.bd (Rd.giv _ _ _ _)))
theorem Rd.fin {A B : Type} {f : Rr A} {xs : List Int} {k k2 n : Nat} {e e2 : Int} {L : List A} (g : List A → B) {G : Rr B} (HK : ∀ s k' e', Rd (repR f n) xs k2 e2 s k' e' → Rd G xs k e (g (L ++ s)) k' e') (h : n = 0 ∨ e2 ≠ 0) : Rd G xs k e (g L) k2 e2 := by
  have := HK [] k2 e2 (by
    rcases h with rfl | h
    · exact Rd.giv _ _ _ _
    · exact Rd.err _ h)
  rwa [List.append_nil] at this
section
variable {c : Nat} {a : Option Addr} {len cap k : Nat} {xs : List Int} {e : Int} {W : World}
end
end Go.Proofs.YtjoonmpjcophnaaGreatDoor
namespace Go.Proofs.YtjoonmpjcophnaaGreatDoor
open Go.RowKit

theorem fr_put9 (w : World) (b : Nat) (v0 v1 v2 v3 v4 v5 v6 v7 v8 : Value) : Fr [b] w (((((((((w.setCell ⟨b, 0, none⟩ v0).setCell ⟨b, 1, none⟩ v1).setCell ⟨b, 2, none⟩ v2).setCell ⟨b, 3, none⟩ v3).setCell ⟨b, 4, none⟩ v4).setCell ⟨b, 5, none⟩ v5).setCell ⟨b, 6, none⟩ v6).setCell ⟨b, 7, none⟩ v7).setCell ⟨b, 8, none⟩ v8) :=
  ((((((((((Fr.refl [b] w).place 0 v0).place 1 v1).place 2 v2).place 3 v3).place 4 v4).place 5 v5).place 6 v6).place 7 v7).place 8 v8)
theorem impK_0 {xs : List Int} {k k' : Nat} {e e' : Int} {m n : List Int} {y : Int} (h : Rd (rU 32) xs k e y k' e') : Rd (rImpK m n 0) xs k e ⟨m, n, 0, y, (0, 0, false), 0, false⟩ k' e' := by
  have := h.bd (z := im0) (g := fun y => giv ⟨m, n, 0, y, (0, 0, false), 0, false⟩) (Rd.giv _ _ _ _)
  simpa [rImpK] using this
theorem impK_1 {xs : List Int} {k k' : Nat} {e e' : Int} {m n : List Int} {y : Lm} (h : Rd (rTable) xs k e y k' e') : Rd (rImpK m n 1) xs k e ⟨m, n, 1, 0, y, 0, false⟩ k' e' := by
  have := h.bd (z := im0) (g := fun y => giv ⟨m, n, 1, 0, y, 0, false⟩) (Rd.giv _ _ _ _)
  simpa [rImpK] using this
theorem impK_2 {xs : List Int} {k k' : Nat} {e e' : Int} {m n : List Int} {y : Lm} (h : Rd (rLimits) xs k e y k' e') : Rd (rImpK m n 2) xs k e ⟨m, n, 2, 0, y, 0, false⟩ k' e' := by
  have := h.bd (z := im0) (g := fun y => giv ⟨m, n, 2, 0, y, 0, false⟩) (Rd.giv _ _ _ _)
  simpa [rImpK] using this
theorem impK_3 {xs : List Int} {k k' : Nat} {e e' : Int} {m n : List Int} {y : Int × Bool} (h : Rd (rGlobal) xs k e y k' e') : Rd (rImpK m n 3) xs k e ⟨m, n, 3, 0, (0, 0, false), y.1, y.2⟩ k' e' := by
  have := h.bd (z := im0) (g := fun y => giv ⟨m, n, 3, 0, (0, 0, false), y.1, y.2⟩) (Rd.giv _ _ _ _)
  simpa [rImpK] using this
section
variable {c : Nat} {a : Option Addr} {len cap k : Nat} {xs : List Int} {e : Int} {W : World}
end
end Go.Proofs.YtjoonmpjcophnaaGreatDoor
namespace Go.Proofs.YtjoonmpjcophnaaGreatDoor
open Go.RowKit

section
variable {B : Nat} {t ty : TypeId} {v : Value} {n : Nat} {cs : List Value} {w w' : World}
theorem rof_fr {l : List Nat} (h : w.ownsRow B ty 1 v n cs) (hf : Fr l w w') (hl : ∀ g, v.ownBlock = some g → g ∉ l) : w'.ownsRow B ty 1 v n cs := by
  refine ⟨h.1, ?_⟩
  rcases h.2 with hn | ⟨g, cap, cur, h1, hb, hgg, rest⟩
  · exact .inl hn
  · refine .inr ⟨g, cap, cur, h1, hb, ?_, rest⟩
    rw [hf.block g (Array.getElem?_eq_some_iff.1 hgg).1 (hl g (by rw [h1]; rfl))]
    exact hgg
theorem rof_slice (h : w.ownsRow B ty 1 v n cs) : ∃ p s, v = .slice p n s := by
  rcases h.2 with ⟨h1, h2⟩ | ⟨g, cap, cur, h1, _⟩
  · exact ⟨none, 0, by rw [h1, h2]⟩
  · exact ⟨_, _, h1⟩
end
theorem u64w_id {x : Int} (h0 : 0 ≤ x) (h1 : x < 18446744073709551616) : IntKind.u64.wrap x = x := by
  show x % 18446744073709551616 = x
  exact Int.emod_eq_of_lt h0 h1
theorem sum_acc : ∀ (L : List (Int × Int)) (s : Int), L.foldl (fun s q => s + q.1) s = s + sumN L
  | [], s => by simp [sumN]
  | q :: L, s => by
    have h1 := sum_acc L (s + q.1)
    have h2 := sum_acc L (0 + q.1)
    unfold sumN
    rw [List.foldl_cons, List.foldl_cons, h1, h2]
    omega
theorem sum_put (L : List (Int × Int)) (q : Int × Int) : sumN (L ++ [q]) = sumN L + q.1 := by
  unfold sumN
  rw [List.foldl_append]
  rfl
/-- Counts of a word each. -/
def Bq (L : List (Int × Int)) : Prop := ∀ q ∈ L, 0 ≤ q.1 ∧ q.1 < 4294967296
theorem Bq.put {L : List (Int × Int)} {q : Int × Int} (h : Bq L) (hq : 0 ≤ q.1 ∧ q.1 < 4294967296) : Bq (L ++ [q]) := fun x hx => by
  rcases List.mem_append.1 hx with hx | hx
  · exact h x hx
  · simp at hx; subst hx; exact hq
theorem Bq.sum : ∀ {L : List (Int × Int)}, Bq L → 0 ≤ sumN L ∧ sumN L ≤ L.length * 4294967296
  | [], _ => by simp [sumN]
  | q :: L, h => by
    have h1 := Bq.sum (L := L) (fun x hx => h x (List.mem_cons_of_mem _ hx))
    have h2 := h q (by simp)
    have : sumN (q :: L) = q.1 + sumN L := by
      have := sum_acc L (0 + q.1)
      unfold sumN
      rw [List.foldl_cons, this]
      unfold sumN
      omega
    rw [this, List.length_cons]
    push_cast
    omega
theorem spread_len : ∀ {L : List (Int × Int)}, Bq L → ((spread L).length : Int) = sumN L
  | [], _ => by simp [spread, sumN]
  | q :: L, h => by
    have h1 := spread_len (L := L) (fun x hx => h x (List.mem_cons_of_mem _ hx))
    have h2 := h q (by simp)
    have : sumN (q :: L) = q.1 + sumN L := by
      have := sum_acc L (0 + q.1)
      unfold sumN
      rw [List.foldl_cons, this]
      unfold sumN
      omega
    rw [this, ← h1]
    unfold spread
    rw [List.flatMap_cons, List.length_append, List.length_replicate]
    push_cast
    omega
theorem spread_take {L : List (Int × Int)} (h : Bq L) (i : Nat) : ((spread (L.take i)).length : Int) ≤ sumN L := by
  rw [← spread_len h]
  have : spread L = spread (L.take i) ++ spread (L.drop i) := by
    unfold spread
    rw [← List.flatMap_append, List.take_append_drop]
  rw [this, List.length_append]
  omega
theorem spread_next {L : List (Int × Int)} {i : Nat} {x y : Int} (h : L[i]? = some (x, y)) : spread (L.take (i + 1)) = spread (L.take i) ++ List.replicate x.toNat y := by
  unfold spread
  rw [List.take_add_one, h, List.flatMap_append]
  simp
def u64c (xs : List Int) : List Value := xs.map (Value.int .u64)
theorem zero8 : ((Tryz.prog.info? 5).getD default).zero = some (.int .u8 0) := by kernel_rfl
theorem bytes8 : ((Tryz.prog.info? 5).getD default).bytes = 1 := by kernel_rfl
theorem size8 : ((Tryz.prog.info? 5).getD default).size = 1 := by kernel_rfl
/-- The two rows of the first loop. -/
structure Lq (B : Nat) (v3 v4 : Value) (L : List (Int × Int)) (w : World) : Prop where
  a : w.ownsRow B 138 1 v3 L.length (u64c (L.map (·.1)))
  b : w.ownsRow B 5 1 v4 L.length (bys (L.map (·.2)))
  sep : ∀ g, v3.ownBlock = some g → v4.ownBlock ≠ some g
theorem Lq.fr {B : Nat} {v3 v4 : Value} {L : List (Int × Int)} {w w' : World} {l : List Nat} (h : Lq B v3 v4 L w) (hf : Fr l w w') (hl : ∀ g ∈ l, g < B) : Lq B v3 v4 L w' :=
  ⟨rof_fr h.a hf (fun g hg hm => by have := (World.ownsRow.lt h.a g hg).1; have := hl g hm; omega), rof_fr h.b hf (fun g hg hm => by have := (World.ownsRow.lt h.b g hg).1; have := hl g hm; omega), h.sep⟩
section
variable {c : Nat} {a : Option Addr} {len cap k : Nat} {xs : List Int} {e : Int} {W : World}
theorem rlocals_nil {L : List (Int × Int)} {k2 : Nat} {e2 : Int} (h : Rd (rList rPair) xs k e L k2 e2) (he : e2 ≠ 0) : Rd rLoc xs k e [] k2 e2 := h.bd (Rd.err _ he)
theorem rlocals_110 {L : List (Int × Int)} {k2 : Nat} (h : Rd (rList rPair) xs k e L k2 0) (hs : 4294967295 < sumN L) : Rd rLoc xs k e [] k2 110 :=
  h.bd (Rd.bd (x := ()) (e1 := 110) (by rw [decide_eq_false (by omega)]; exact Rd.tst_f _ _ _ (by decide) _ _ _) (Rd.err _ (by decide)))
theorem rlocals_3 {L : List (Int × Int)} {k2 : Nat} (h : Rd (rList rPair) xs k e L k2 0) (hs : ¬ 4294967295 < sumN L) (ht : 1024 < sumN L) : Rd rLoc xs k e [] k2 3 :=
  h.bd (Rd.bd (x := ()) (e1 := 0) (by rw [decide_eq_true (by omega)]; exact Rd.tst_t _ _ _ _ _ _) (by rw [decide_eq_false (by omega)]; exact Rd.tst_f _ _ _ (by decide) _ _ _))
theorem rlocals_ok {L : List (Int × Int)} {k2 : Nat} (h : Rd (rList rPair) xs k e L k2 0) (ht : ¬ 1024 < sumN L) : Rd rLoc xs k e (spread L) k2 0 :=
  h.bd (Rd.bd (x := ()) (e1 := 0) (by rw [decide_eq_true (by omega)]; exact Rd.tst_t _ _ _ _ _ _) (by rw [decide_eq_true (by omega)]; exact Rd.tst_t _ _ _ _ _ _))
end
end Go.Proofs.YtjoonmpjcophnaaGreatDoor
namespace Go.Proofs.YtjoonmpjcophnaaGreatDoor
open Go.RowKit

theorem uCells_at {ys : List Int} {i : Nat} (h : i < ys.length) : (uCells ys)[i]? = some (.int .u32 (ys.getD i 0)) := by
  simp [uCells, List.getD, h]
set_option maxHeartbeats 8000000 in
set_option maxRecDepth 100000 in
theorem sameL_any {ys : List Int} {P P' : Nat → Prop} {v1 v2 : Value} {W : World} (h1 : Slc W P ys.length (uCells ys) v1) (h2 : Slc W P' ys.length (uCells ys) v2) (hz : ys.length ≤ 10000000000) :
    Calls Tryz.prog 64 #[v1, v2] W fun r W' => r = .returned (.bool true) ∧ Fr [] W W' := by
  obtain ⟨a1, c1, rfl, hc1, -, ho1⟩ := h1
  obtain ⟨a2, c2, rfl, hc2, -, ho2⟩ := h2
  have HO1 := hide ho1
  have HO2 := hide ho2
  clear ho1 ho2
  have hnn : ((ys.length : Int) != (ys.length : Int)) = false := by simp
  go_enter Tryz.func64, Tryz.ntmps64
  go_wp2_with fail
  go_loopw [5] (fun v5 wr => ∃ i : Nat, i ≤ ys.length ∧ v5 = .int .i64 (i : Int) ∧ Fr [] W wr) (fun v5 _ => ys.length - (intOf v5).toNat)
  case atStart => exact ⟨0, by omega, rfl, Fr.refl _ _⟩
  case round =>
    obtain ⟨i, hi, rfl, hF⟩ := hrel
    by_cases hlt : i < ys.length
    · rcases unhide HO1 with ⟨h0, _⟩ | ⟨b1, o1, rfl, -, hcell1⟩
      · omega
      · rcases unhide HO2 with ⟨h0, _⟩ | ⟨b2, o2, rfl, -, hcell2⟩
        · omega
        · have g1 := hF.keep (hcell1 i _ (uCells_at hlt)) (by simp)
          have g2 := hF.keep (hcell2 i _ (uCells_at hlt)) (by simp)
          have hi' : (i : Int) < (ys.length : Int) := by omega
          have hi2 : (0 : Int) ≤ (i : Int) := by omega
          have HF := hide hF
          generalize ys.getD i 0 = y at *
          clear hcell1 hcell2 hF
          go_wp2_with fail
          go_quiet (fail)
          go_wp2_with fail
          refine ⟨⟨i + 1, by omega, by go_num, (unhide HF).bel (below_drewN (Below.refl _ _) _)⟩, by simp [intOf]; omega⟩
    · obtain rfl : i = ys.length := by omega
      go_wp2_with fail
      go_ret
      exact ⟨rfl, hF⟩
/-- No list is too long. -/
def Lok : Fo → Prop
  | .nil => True
  | .cons h t e r => h.list.length ≤ 10000000000 ∧ Lok t ∧ Lok e ∧ Lok r
theorem Lok.at : ∀ {T : Fo} {i : Nat} {h : Hd} {t e : Fo}, Lok T → T.at i = some (h, t, e) → h.list.length ≤ 10000000000 ∧ Lok t ∧ Lok e
  | .nil, _, _, _, _, _, hh => by cases hh
  | .cons h t e r, 0, _, _, _, hl, hh => by injection hh with hh; injection hh with g1 hh; injection hh with g2 g3; subst g1; subst g2; subst g3; exact ⟨hl.1, hl.2.1, hl.2.2.1⟩
  | .cons h t e r, i + 1, _, _, _, hl, hh => Lok.at (T := r) hl.2.2.2 hh
/-- The contract of Same for what is smaller than n, and the same. -/
def PSame (n : Nat) : Prop := ∀ (T : Fo) (P P' : Nat → Prop) (v1 v2 : Value) (W : World), T.size < n → T.size ≤ 2000000 → Lok T → Fov W P T v1 → Fov W P' T v2 →
  Calls Tryz.prog 31 #[v1, v2] W fun r W' => r = .returned (.bool true) ∧ Fr [] W W'
set_option maxHeartbeats 8000000 in
set_option maxRecDepth 100000 in
theorem same_step {n : Nat} {T : Fo} {P P' : Nat → Prop} {v1 v2 : Value} {W : World} (HI : Hid (PSame n)) (hs : T.size < n + 1) (hz : T.size ≤ 2000000) (hk : Lok T) (h1 : Fov W P T v1) (h2 : Fov W P' T v2) :
  Calls Tryz.prog 31 #[v1, v2] W fun r W' => r = .returned (.bool true) ∧ Fr [] W W' := by
  obtain ⟨a1, c1, rfl, hc1, ho1⟩ := h1.open2
  obtain ⟨a2, c2, rfl, hc2, ho2⟩ := h2.open2
  have HO1 := hide ho1
  have HO2 := hide ho2
  have HK := hide hk
  have hl := T.len_le
  clear ho1 ho2 h1 h2 hk
  have hnn : ((T.len : Int) != (T.len : Int)) = false := by simp
  go_enter Tryz.func31, Tryz.ntmps31
  go_wp2_with fail
  go_loopw [5] (fun v5 wr => ∃ i : Nat, i ≤ T.len ∧ v5 = .int .i64 (i : Int) ∧ Fr [] W wr) (fun v5 _ => T.len - (intOf v5).toNat)
  case atStart => exact ⟨0, by omega, rfl, Fr.refl _ _⟩
  case round =>
    obtain ⟨i, hi, rfl, hF⟩ := hrel
    by_cases hlt : i < T.len
    · obtain ⟨⟨⟨op, ty, aa, bb, bits, li, has⟩, t, e⟩, hat⟩ := Fo.at_some hlt
      obtain ⟨k1, k2, k3⟩ := (unhide HK).at hat
      dsimp only at k1
      rcases unhide HO1 with h0 | ⟨b1, o1, rfl, -, hel1⟩
      · omega
      · rcases unhide HO2 with h0 | ⟨b2, o2, rfl, -, hel2⟩
        · omega
        · obtain ⟨l1x, l3x, t1x, t3x, e1x, e3x, hEx, hLx, htx, hex⟩ := hel1 i _ t e hat
          obtain ⟨l1y, l3y, t1y, t3y, e1y, e3y, hEy, hLy, hty, hey⟩ := hel2 i _ t e hat
          have hsz := Fo.at_size hat
          have hi' : (i : Int) < (T.len : Int) := by omega
          have hi2 : (0 : Int) ≤ (i : Int) := by omega
          have HF := hide hF
          have HLx := hide (hLx.fr hF (by simp))
          have HTx := hide (htx.fr hF (by simp))
          have HEx := hide (hex.fr hF (by simp))
          have HLy := hide (hLy.fr hF (by simp))
          have HTy := hide (hty.fr hF (by simp))
          have HEy := hide (hey.fr hF (by simp))
          obtain ⟨f0, f1, f2, f3, f4, f5, f6, f7, f8⟩ := hEx.fr hF (by simp)
          obtain ⟨g0, g1, g2, g3, g4, g5, g6, g7, g8⟩ := hEy.fr hF (by simp)
          dsimp only at f0 f1 f2 f3 f4 f5 f6 f7 f8 g0 g1 g2 g3 g4 g5 g6 g7 g8
          clear hEx hLx htx hex hEy hLy hty hey hF hel1 hel2
          have n0 : (op != op) = false := by simp
          have n1 : (ty != ty) = false := by simp
          have n2 : (aa != aa) = false := by simp
          have n3 : (bb != bb) = false := by simp
          have n4 : (bits != bits) = false := by simp
          have hl2 : b2 < wr.heap.size := World.block_lt_of_cell? wr _ g0
          have hn2 : ¬ b2 = wr.heap.size := by omega
          go_wp2_with fail
          have hb := Fr.of (below2 wr (.cells #[.int .i64 op, .int .u8 ty, .int .u32 aa, .int .u32 bb, .int .u64 bits, .slice l1x li.length l3x, .slice t1x t.len t3x, .slice e1x e.len e3x, .bool has] 158) (.cells #[.int .i64 op, .int .u8 ty, .int .u32 aa, .int .u32 bb, .int .u64 bits, .slice l1y li.length l3y, .slice t1y t.len t3y, .slice e1y e.len e3y, .bool has] 158)) []
          have HF := hide ((unhide HF).trans hb)
          have HLx := hide ((unhide HLx).fr hb (by simp))
          have HLy := hide ((unhide HLy).fr hb (by simp))
          have HTx := hide ((unhide HTx).fr hb (by simp))
          have HTy := hide ((unhide HTy).fr hb (by simp))
          have HEx := hide ((unhide HEx).fr hb (by simp))
          have HEy := hide ((unhide HEy).fr hb (by simp))
          have HC : Hid (((wr.alloc (.cells #[.int .i64 op, .int .u8 ty, .int .u32 aa, .int .u32 bb, .int .u64 bits, .slice l1x li.length l3x, .slice t1x t.len t3x, .slice e1x e.len e3x, .bool has] 158)).alloc (.cells #[.int .i64 op, .int .u8 ty, .int .u32 aa, .int .u32 bb, .int .u64 bits, .slice l1y li.length l3y, .slice t1y t.len t3y, .slice e1y e.len e3y, .bool has] 158)).cell? ⟨wr.heap.size, 6, none⟩ = some (.slice t1x t.len t3x) ∧ ((wr.alloc (.cells #[.int .i64 op, .int .u8 ty, .int .u32 aa, .int .u32 bb, .int .u64 bits, .slice l1x li.length l3x, .slice t1x t.len t3x, .slice e1x e.len e3x, .bool has] 158)).alloc (.cells #[.int .i64 op, .int .u8 ty, .int .u32 aa, .int .u32 bb, .int .u64 bits, .slice l1y li.length l3y, .slice t1y t.len t3y, .slice e1y e.len e3y, .bool has] 158)).cell? ⟨wr.heap.size + 1, 6, none⟩ = some (.slice t1y t.len t3y) ∧ ((wr.alloc (.cells #[.int .i64 op, .int .u8 ty, .int .u32 aa, .int .u32 bb, .int .u64 bits, .slice l1x li.length l3x, .slice t1x t.len t3x, .slice e1x e.len e3x, .bool has] 158)).alloc (.cells #[.int .i64 op, .int .u8 ty, .int .u32 aa, .int .u32 bb, .int .u64 bits, .slice l1y li.length l3y, .slice t1y t.len t3y, .slice e1y e.len e3y, .bool has] 158)).cell? ⟨wr.heap.size, 7, none⟩ = some (.slice e1x e.len e3x) ∧ ((wr.alloc (.cells #[.int .i64 op, .int .u8 ty, .int .u32 aa, .int .u32 bb, .int .u64 bits, .slice l1x li.length l3x, .slice t1x t.len t3x, .slice e1x e.len e3x, .bool has] 158)).alloc (.cells #[.int .i64 op, .int .u8 ty, .int .u32 aa, .int .u32 bb, .int .u64 bits, .slice l1y li.length l3y, .slice t1y t.len t3y, .slice e1y e.len e3y, .bool has] 158)).cell? ⟨wr.heap.size + 1, 7, none⟩ = some (.slice e1y e.len e3y)) := hide (by simp [go_sem])
          clear hb f0 f1 f2 f3 f4 f5 f6 f7 f8 g0 g1 g2 g3 g4 g5 g6 g7 g8 hl2 hn2
          generalize (wr.alloc (.cells #[.int .i64 op, .int .u8 ty, .int .u32 aa, .int .u32 bb, .int .u64 bits, .slice l1x li.length l3x, .slice t1x t.len t3x, .slice e1x e.len e3x, .bool has] 158)).alloc (.cells #[.int .i64 op, .int .u8 ty, .int .u32 aa, .int .u32 bb, .int .u64 bits, .slice l1y li.length l3y, .slice t1y t.len t3y, .slice e1y e.len e3y, .bool has] 158) = w1 at *
          refine (sameL_any (unhide HLx) (unhide HLy) k1).mono ?_
          rintro _ w2 ⟨rfl, hF1⟩
          have HC := hide (And.intro (hF1.keep (unhide HC).1 (by simp)) (And.intro (hF1.keep (unhide HC).2.1 (by simp)) (And.intro (hF1.keep (unhide HC).2.2.1 (by simp)) (hF1.keep (unhide HC).2.2.2 (by simp)))))
          have HF := hide ((unhide HF).trans hF1)
          have HTx := hide ((unhide HTx).fr hF1 (by simp))
          have HTy := hide ((unhide HTy).fr hF1 (by simp))
          have HEx := hide ((unhide HEx).fr hF1 (by simp))
          have HEy := hide ((unhide HEy).fr hF1 (by simp))
          obtain ⟨c1', c2', c3', c4'⟩ := unhide HC
          clear hF1
          go_wp2_with fail
          refine (unhide HI t _ _ _ _ _ (by omega) (by omega) k2 (unhide HTx) (unhide HTy)).mono ?_
          rintro _ w3 ⟨rfl, hF1⟩
          clear c1' c2' c3' c4'
          have HC := hide (And.intro (hF1.keep (unhide HC).1 (by simp)) (And.intro (hF1.keep (unhide HC).2.1 (by simp)) (And.intro (hF1.keep (unhide HC).2.2.1 (by simp)) (hF1.keep (unhide HC).2.2.2 (by simp)))))
          have HF := hide ((unhide HF).trans hF1)
          have HEx := hide ((unhide HEx).fr hF1 (by simp))
          have HEy := hide ((unhide HEy).fr hF1 (by simp))
          obtain ⟨c1', c2', c3', c4'⟩ := unhide HC
          clear hF1
          go_wp2_with fail
          refine (unhide HI e _ _ _ _ _ (by omega) (by omega) k3 (unhide HEx) (unhide HEy)).mono ?_
          rintro _ w4 ⟨rfl, hF1⟩
          have HF := hide ((unhide HF).trans hF1)
          clear c1' c2' c3' c4' hF1
          go_wp2_with fail
          refine ⟨⟨i + 1, by omega, by go_num, unhide HF⟩, by simp [intOf]; omega⟩
    · obtain rfl : i = T.len := by omega
      go_wp2_with fail
      go_ret
      exact ⟨rfl, hF⟩
theorem same_any : ∀ n, PSame n
  | 0 => fun _ _ _ _ _ _ h _ _ _ _ => absurd h (Nat.not_lt_zero _)
  | n + 1 => fun _ _ _ _ _ _ h hz hk h1 h2 => same_step (hide (same_any n)) h hz hk h1 h2
end Go.Proofs.YtjoonmpjcophnaaGreatDoor
namespace Go.Proofs.YtjoonmpjcophnaaGreatDoor
open Go.RowKit

/-- A row of instructions that is being made: what it leads to lies elsewhere, or in elder blocks. -/
structure Ry (Q : Nat → Prop) (t : TypeId) (B : Nat) (v : Value) (T : Fo) (cs : List Value) (e : Int) (w : World) : Prop where
  own : w.ownsRow B t 9 v T.len cs
  enc : e = 0 → Enc w (fun b => Q b ∧ b < B ∨ B ≤ b ∧ v.ownBlock ≠ some b) T cs
theorem ry_nil (Q : Nat → Prop) (t : TypeId) (B : Nat) (e : Int) (w : World) : Ry Q t B (.slice none 0 0) .nil [] e w := ⟨World.ownsRow_nil _ _ _ _, fun _ => rfl⟩
theorem Ry.fr {Q : Nat → Prop} {t : TypeId} {B : Nat} {v : Value} {T : Fo} {cs : List Value} {e e' : Int} {w w' : World} (h : Ry Q t B v T cs e w) (hf : Fr [] w w') (he : e' = 0 → e = 0) : Ry Q t B v T cs e' w' := by
  refine ⟨⟨h.own.1, ?_⟩, fun q => (h.enc (he q)).fr hf (by simp)⟩
  rcases h.own.2 with hn | ⟨g, cap, cur, h1, hb, hgg, rest⟩
  · exact .inl hn
  · refine .inr ⟨g, cap, cur, h1, hb, ?_, rest⟩
    rw [hf.block g (Array.getElem?_eq_some_iff.1 hgg).1 (by simp)]
    exact hgg
theorem Ry.slice {Q : Nat → Prop} {t : TypeId} {B : Nat} {v : Value} {T : Fo} {cs : List Value} {e : Int} {w : World} (h : Ry Q t B v T cs e w) : ∃ p s, v = .slice p T.len s := by
  rcases h.own.2 with ⟨h1, h2⟩ | ⟨g, cap, cur, h1, _⟩
  · exact ⟨none, 0, by rw [h1, h2]⟩
  · exact ⟨_, _, h1⟩
theorem Ry.fov {Q : Nat → Prop} {t : TypeId} {B : Nat} {v : Value} {T : Fo} {cs : List Value} {e : Int} {w : World} (h : Ry Q t B v T cs e w) (he : e = 0) : Fov w (fun b => Q b ∧ b < B ∨ B ≤ b) T v :=
  ⟨cs, (h.enc he).mono (fun b _ hb => hb.elim .inl (fun q => .inr q.1)), slc_own h.own (by decide) (fun g hg => .inr (h.own.lt g hg).1)⟩
/-- One instruction more. -/
theorem Ry.app {Q : Nat → Prop} {t ty : TypeId} {i : TypeInfo} {z : Value} {bytes : Nat} (ht : Tryz.prog.underlying t = some (.slice ty)) (hi : Tryz.prog.info? ty = some i) (hz : i.zero = some z)
    (hsize : i.size = 9) (hby : i.bytes = bytes) (hb1 : bytes ≤ 1000) (hzs : z.cells.size = 9) {B : Nat} {v : Value} {T : Fo} {cs : List Value} {e e2 : Int} {w w1 w2 : World} (h : Ry Q ty B v T cs e w) (hf : Fr [] w w1)
    (hB : B ≤ w.heap.size) (hn : T.len ≤ 10000000000) {hd : Hd} {t' e' : Fo} {lv vt ve : Value} (ho1 : lv.oneCell' = true) (ho2 : vt.oneCell' = true) (ho3 : ve.oneCell' = true) (he : e2 = 0 → e = 0)
    (hx : e2 = 0 → Slc w1 (fun b => Q b ∧ b < B ∨ w.heap.size ≤ b) hd.list.length (uCells hd.list) lv ∧ Fov w1 (fun b => Q b ∧ b < B ∨ w.heap.size ≤ b) t' vt ∧ Fov w1 (fun b => Q b ∧ b < B ∨ w.heap.size ≤ b) e' ve)
    (hw2 : w2 = w1.alloc (.cells (hcells hd lv vt ve).toArray ty)) :
    ∃ p s w3, (Builtin.append_ #[t, t] t #[v, .slice (some ⟨w1.heap.size, 0, none⟩) 1 1]).run Tryz.prog w2 = .ok (.slice p (T.len + 1) s) w3 ∧ Ry Q ty B (.slice p (T.len + 1) s) (T.app (.cons hd t' e' .nil)) (cs ++ hcells hd lv vt ve) e2 w3 ∧ (∀ W, Fr [] W w1 → W.heap.size ≤ B → Fr [] W w3) ∧ (∀ (p : Addr) (x : Value), w1.cell? p = some x → v.ownBlock ≠ some p.block → w3.cell? p = some x) := by
  have hfl := hf
  have h' := h.fr hfl (e' := e2) he
  have hbl := below1 w1 (.cells (hcells hd lv vt ve).toArray ty)
  rw [← hw2] at hbl
  have h2 := h'.fr (Fr.of hbl []) (e' := e2) (fun q => q)
  have hsz2 : w2.heap.size = w1.heap.size + 1 := by rw [hw2]; simp
  have hsz1 := hfl.size
  have hcell : ∀ j u, (hcells hd lv vt ve)[j]? = some u → w2.cell? ((⟨w1.heap.size, 0, none⟩ : Addr).add j) = some u := by
    intro j u hj
    rw [add_off, Nat.zero_add, hw2, World.cell?_alloc_new]
    simpa using hj
  have hone : ∀ u ∈ hcells hd lv vt ve, u.oneCell' = true := by
    intro u hu
    simp only [hcells, List.mem_cons, List.not_mem_nil, or_false] at hu
    rcases hu with rfl | rfl | rfl | rfl | rfl | rfl | rfl | rfl | rfl
    all_goals first | rfl | assumption
  obtain ⟨v', w3, hr, g1, g2, g3⟩ := app_own (c := 1) ht hi hz hsize hby hzs (by decide) h2.own (m := 1) (news := hcells hd lv vt ve) rfl hcell hone (by unfold maxLen; omega) (by have := Nat.mul_le_mul (show T.len + 1 ≤ 10000000001 by omega) (show i.bytes ≤ 1000 by omega); rw [← hby]; omega) (by omega)
  have hlen : (T.app (.cons hd t' e' .nil)).len = T.len + 1 := by rw [Fo.len_app]; rfl
  have hfg := fr_grown g2
  have hvl := h2.own.lt
  have hR : Ry Q ty B v' (T.app (.cons hd t' e' .nil)) (cs ++ hcells hd lv vt ve) e2 w3 := by
    refine ⟨by rw [hlen]; exact g1, fun q => ?_⟩
    obtain ⟨x1, x2, x3⟩ := hx q
    have hv0 : ∀ b, v.ownBlock = some b → B ≤ b ∧ b < w.heap.size := fun b hb => h.own.lt b hb
    have hv1 : ∀ b, v'.ownBlock = some b → v.ownBlock = some b ∨ w2.heap.size ≤ b := g3
    have m0 : ∀ b, b < w2.heap.size → (fun b => Q b ∧ b < B ∨ B ≤ b ∧ v.ownBlock ≠ some b) b → (fun b => (Q b ∧ b < B ∨ B ≤ b ∧ v.ownBlock ≠ some b) ∧ b < w2.heap.size) b := fun b h1 h2 => ⟨h2, h1⟩
    have fin0 : ∀ b, b < w3.heap.size → (fun b => (Q b ∧ b < B ∨ B ≤ b ∧ v.ownBlock ≠ some b) ∧ b < w2.heap.size) b → (fun b => Q b ∧ b < B ∨ B ≤ b ∧ v'.ownBlock ≠ some b) b := by
      intro b _ hq
      rcases hq.1 with q1 | q1
      · exact .inl q1
      · refine .inr ⟨q1.1, fun hv' => ?_⟩
        rcases hv1 b hv' with q2 | q2
        · exact q1.2 q2
        · have := hq.2; omega
    have up : ∀ i ∈ v.ownBlock.toList, ¬ (fun b => (Q b ∧ b < B ∨ B ≤ b ∧ v.ownBlock ≠ some b) ∧ b < w2.heap.size) i := by
      intro i hi hp
      have hv : v.ownBlock = some i := by simpa using hi
      rcases hp.1 with q1 | q1
      · have := (hv0 i hv).1; omega
      · exact q1.2 hv
    have m1 : ∀ b, b < w1.heap.size → (fun b => Q b ∧ b < B ∨ w.heap.size ≤ b) b → (fun b => (Q b ∧ b < B ∨ B ≤ b ∧ v.ownBlock ≠ some b) ∧ b < w2.heap.size) b := by
      intro b h1 h2
      refine ⟨h2.elim .inl (fun q => .inr ⟨by omega, fun hv => ?_⟩), by omega⟩
      have := (hv0 b hv).2
      omega
    refine Enc.app ?_ ((((h2.enc q).mono m0).fr hfg up).mono fin0)
    have y1 := (((x1.mono m1).fr (Fr.of hbl []) (by simp)).fr hfg up).mono fin0
    have y2 := (((x2.mono m1).fr (Fr.of hbl []) (by simp)).fr hfg up).mono fin0
    have y3 := (((x3.mono m1).fr (Fr.of hbl []) (by simp)).fr hfg up).mono fin0
    exact ⟨lv, vt, ve, [], by rw [List.append_nil], y1, y2, y3, rfl⟩
  obtain ⟨p, s, rfl⟩ := hR.slice
  rw [hlen] at hr hR
  refine ⟨p, s, w3, hr, hR, fun W hF hW => ((hF.bel hbl).grown g2 (fun g hg => .inr ?_)), fun q x hx hne => ?_⟩
  · have := (hvl g hg).1; omega
  · exact ((Fr.of hbl v.ownBlock.toList).trans hfg).keep hx (fun hm => hne (by simpa using hm))
end Go.Proofs.YtjoonmpjcophnaaGreatDoor
