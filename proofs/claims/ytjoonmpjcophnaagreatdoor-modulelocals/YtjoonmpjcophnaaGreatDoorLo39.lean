/- MsB, MdF, MdG. -/
import Derived.Test.YtjoonmpjcophnaaGreatDoorLo37
namespace Go.Proofs.YtjoonmpjcophnaaGreatDoor
open Go.RowKit

theorem bys_cell_at {xs : List Int} {w : World} {b off : Nat} (h : ∀ j u, (bys xs)[j]? = some u → w.cell? ⟨b, off + j, none⟩ = some u) : ∀ j, j < xs.length → w.cell? ⟨b, off + j, none⟩ = some (.int .u8 (xs.getD j 0)) := fun j hj => h j _ (by
  unfold bys
  rw [List.getElem?_map, List.getElem?_eq_getElem hj]
  simp [List.getD, hj])
theorem conv_slc {w : World} {P : Nat → Prop} {xs : List Int} {v : Value} (h : Slc w P xs.length (bys xs) v) : (convert 22 9 v).run Tryz.prog w = .ok (.string (strOfNums xs)) w := by
  obtain ⟨a, cap, rfl, -, -, h⟩ := h
  rcases h with ⟨h0, hc⟩ | ⟨b, off, rfl, -, h⟩
  · obtain rfl : xs = [] := List.eq_nil_of_length_eq_zero h0
    cases a with
    | none =>
      obtain rfl := hc rfl
      exact run_convert_bytes_nil w 22 5 Tryz.underlying22 Tryz.underlying5 0 0 9 Tryz.underlying9
    | some p =>
      rw [run_convert_bytes_string w 22 9 5 _ _ cap Tryz.underlying22 Tryz.underlying5 Tryz.underlying9]
      exact run_bytesToString w p 0 cap [] (run_loadCells_list (P := Tryz.prog) w p [] (fun j v hj => nomatch hj))
  · exact conv_at rfl (bys_cell_at h)
end Go.Proofs.YtjoonmpjcophnaaGreatDoor
namespace Go.Proofs.YtjoonmpjcophnaaGreatDoor
open Go.RowKit

theorem fr_put9 (w : World) (b : Nat) (v0 v1 v2 v3 v4 v5 v6 v7 v8 : Value) : Fr [b] w (((((((((w.setCell ⟨b, 0, none⟩ v0).setCell ⟨b, 1, none⟩ v1).setCell ⟨b, 2, none⟩ v2).setCell ⟨b, 3, none⟩ v3).setCell ⟨b, 4, none⟩ v4).setCell ⟨b, 5, none⟩ v5).setCell ⟨b, 6, none⟩ v6).setCell ⟨b, 7, none⟩ v7).setCell ⟨b, 8, none⟩ v8) :=
  ((((((((((Fr.refl [b] w).place 0 v0).place 1 v1).place 2 v2).place 3 v3).place 4 v4).place 5 v5).place 6 v6).place 7 v7).place 8 v8)
theorem impK_0 {xs : List Int} {k k' : Nat} {e e' : Int} {m n : List Int} {y : Int} (h : Rd (rU 32) xs k e y k' e') : Rd (rImpK m n 0) xs k e ⟨m, n, 0, y, (0, 0, false), 0, false⟩ k' e' := by
  have := h.bd (z := im0) (g := fun y => giv ⟨m, n, 0, y, (0, 0, false), 0, false⟩) (Rd.giv _ _ _ _)
  simpa [rImpK] using this
theorem impK_1 {xs : List Int} {k k' : Nat} {e e' : Int} {m n : List Int} {y : Lm} (h : Rd (rTable) xs k e y k' e') : Rd (rImpK m n 1) xs k e ⟨m, n, 1, 0, y, 0, false⟩ k' e' := by
  have := h.bd (z := im0) (g := fun y => giv ⟨m, n, 1, 0, y, 0, false⟩) (Rd.giv _ _ _ _)
  simpa [rImpK] using this
theorem impK_2 {xs : List Int} {k k' : Nat} {e e' : Int} {m n : List Int} {y : Lm} (h : Rd (rLimits) xs k e y k' e') : Rd (rImpK m n 2) xs k e ⟨m, n, 2, 0, y, 0, false⟩ k' e' := by
  have := h.bd (z := im0) (g := fun y => giv ⟨m, n, 2, 0, y, 0, false⟩) (Rd.giv _ _ _ _)
  simpa [rImpK] using this
theorem impK_3 {xs : List Int} {k k' : Nat} {e e' : Int} {m n : List Int} {y : Int × Bool} (h : Rd (rGlobal) xs k e y k' e') : Rd (rImpK m n 3) xs k e ⟨m, n, 3, 0, (0, 0, false), y.1, y.2⟩ k' e' := by
  have := h.bd (z := im0) (g := fun y => giv ⟨m, n, 3, 0, (0, 0, false), y.1, y.2⟩) (Rd.giv _ _ _ _)
  simpa [rImpK] using this
section
variable {c : Nat} {a : Option Addr} {len cap k : Nat} {xs : List Int} {e : Int} {W : World}
end
end Go.Proofs.YtjoonmpjcophnaaGreatDoor
namespace Go.Proofs.YtjoonmpjcophnaaGreatDoor
open Go.RowKit

section
variable {B : Nat} {t ty : TypeId} {v : Value} {n : Nat} {cs : List Value} {w w' : World}
theorem rof_fr {l : List Nat} (h : w.ownsRow B ty 1 v n cs) (hf : Fr l w w') (hl : ∀ g, v.ownBlock = some g → g ∉ l) : w'.ownsRow B ty 1 v n cs := by
  refine ⟨h.1, ?_⟩
  rcases h.2 with hn | ⟨g, cap, cur, h1, hb, hgg, rest⟩
  · exact .inl hn
  · refine .inr ⟨g, cap, cur, h1, hb, ?_, rest⟩
    rw [hf.block g (Array.getElem?_eq_some_iff.1 hgg).1 (hl g (by rw [h1]; rfl))]
    exact hgg
theorem rof_slice (h : w.ownsRow B ty 1 v n cs) : ∃ p s, v = .slice p n s := by
  rcases h.2 with ⟨h1, h2⟩ | ⟨g, cap, cur, h1, _⟩
  · exact ⟨none, 0, by rw [h1, h2]⟩
  · exact ⟨_, _, h1⟩
theorem rof_app {i : TypeInfo} {z : Value} {bytes : Nat} (ht : Tryz.prog.underlying t = some (.slice ty)) (hi : Tryz.prog.info? ty = some i) (hz : i.zero = some z) (hsize : i.size = 1) (hby : i.bytes = bytes) (hb1 : bytes ≤ 1000) (hzs : z.cells.size = 1)
    (h : w.ownsRow B ty 1 v n cs) (hB : B ≤ w.heap.size) (hn : n ≤ 10000000000) {u : Value} (hu : u.oneCell' = true) :
    ∃ p s w3, (Builtin.append_ #[t, t] t #[v, .slice (some ⟨w.heap.size, 0, none⟩) 1 1]).run Tryz.prog (w.alloc (.cells #[u] ty)) = .ok (.slice p (n + 1) s) w3 ∧ w3.ownsRow B ty 1 (.slice p (n + 1) s) (n + 1) (cs ++ [u]) ∧ Fr v.ownBlock.toList w w3 ∧
      (∀ g, (Value.slice p (n + 1) s).ownBlock = some g → v.ownBlock = some g ∨ w.heap.size ≤ g) := by
  have hb := below1 w (.cells #[u] ty)
  have h1 := rof_fr h (Fr.of hb []) (by simp)
  have hsz : (w.alloc (.cells #[u] ty)).heap.size = w.heap.size + 1 := by simp
  obtain ⟨v', w3, hr, g1, g2, g3⟩ := app_own (c := 1) ht hi hz hsize hby hzs (by decide) h1 (m := 1) (news := [u]) (a := ⟨w.heap.size, 0, none⟩) rfl (fun j y hj => by rw [add_off, Nat.zero_add, World.cell?_alloc_new]; simpa using hj) (fun y hy => by simp at hy; subst hy; exact hu) (by unfold maxLen; omega) (by have := Nat.mul_le_mul (show n + 1 ≤ 10000000001 by omega) (show bytes ≤ 1000 by omega); omega) (by omega)
  obtain ⟨p, s, rfl⟩ := rof_slice g1
  exact ⟨p, s, w3, hr, g1, (Fr.of hb _).thenL (fr_grown g2) (fun _ hi => .inl hi), fun g hg => (g3 g hg).imp id (fun q => by omega)⟩
end
theorem u64w_id {x : Int} (h0 : 0 ≤ x) (h1 : x < 18446744073709551616) : IntKind.u64.wrap x = x := by
  show x % 18446744073709551616 = x
  exact Int.emod_eq_of_lt h0 h1
theorem sum_acc : ∀ (L : List (Int × Int)) (s : Int), L.foldl (fun s q => s + q.1) s = s + sumN L
  | [], s => by simp [sumN]
  | q :: L, s => by
    have h1 := sum_acc L (s + q.1)
    have h2 := sum_acc L (0 + q.1)
    unfold sumN
    rw [List.foldl_cons, List.foldl_cons, h1, h2]
    omega
theorem sum_put (L : List (Int × Int)) (q : Int × Int) : sumN (L ++ [q]) = sumN L + q.1 := by
  unfold sumN
  rw [List.foldl_append]
  rfl
/-- Counts of a word each. -/
def Bq (L : List (Int × Int)) : Prop := ∀ q ∈ L, 0 ≤ q.1 ∧ q.1 < 4294967296
theorem Bq.put {L : List (Int × Int)} {q : Int × Int} (h : Bq L) (hq : 0 ≤ q.1 ∧ q.1 < 4294967296) : Bq (L ++ [q]) := fun x hx => by
  rcases List.mem_append.1 hx with hx | hx
  · exact h x hx
  · simp at hx; subst hx; exact hq
theorem Bq.sum : ∀ {L : List (Int × Int)}, Bq L → 0 ≤ sumN L ∧ sumN L ≤ L.length * 4294967296
  | [], _ => by simp [sumN]
  | q :: L, h => by
    have h1 := Bq.sum (L := L) (fun x hx => h x (List.mem_cons_of_mem _ hx))
    have h2 := h q (by simp)
    have : sumN (q :: L) = q.1 + sumN L := by
      have := sum_acc L (0 + q.1)
      unfold sumN
      rw [List.foldl_cons, this]
      unfold sumN
      omega
    rw [this, List.length_cons]
    push_cast
    omega
theorem spread_len : ∀ {L : List (Int × Int)}, Bq L → ((spread L).length : Int) = sumN L
  | [], _ => by simp [spread, sumN]
  | q :: L, h => by
    have h1 := spread_len (L := L) (fun x hx => h x (List.mem_cons_of_mem _ hx))
    have h2 := h q (by simp)
    have : sumN (q :: L) = q.1 + sumN L := by
      have := sum_acc L (0 + q.1)
      unfold sumN
      rw [List.foldl_cons, this]
      unfold sumN
      omega
    rw [this, ← h1]
    unfold spread
    rw [List.flatMap_cons, List.length_append, List.length_replicate]
    push_cast
    omega
theorem spread_take {L : List (Int × Int)} (h : Bq L) (i : Nat) : ((spread (L.take i)).length : Int) ≤ sumN L := by
  rw [← spread_len h]
  have : spread L = spread (L.take i) ++ spread (L.drop i) := by
    unfold spread
    rw [← List.flatMap_append, List.take_append_drop]
  rw [this, List.length_append]
  omega
theorem spread_next {L : List (Int × Int)} {i : Nat} {x y : Int} (h : L[i]? = some (x, y)) : spread (L.take (i + 1)) = spread (L.take i) ++ List.replicate x.toNat y := by
  unfold spread
  rw [List.take_add_one, h, List.flatMap_append]
  simp
def u64c (xs : List Int) : List Value := xs.map (Value.int .u64)
theorem iU64 : Tryz.prog.info? 138 = some ((Tryz.prog.info? 138).getD default) := by kernel_rfl
theorem bytes64 : ((Tryz.prog.info? 138).getD default).bytes = 8 := by kernel_rfl
theorem size64 : ((Tryz.prog.info? 138).getD default).size = 1 := by kernel_rfl
theorem zero64 : ((Tryz.prog.info? 138).getD default).zero = some (.int .u64 0) := by kernel_rfl
theorem zero8 : ((Tryz.prog.info? 5).getD default).zero = some (.int .u8 0) := by kernel_rfl
theorem bytes8 : ((Tryz.prog.info? 5).getD default).bytes = 1 := by kernel_rfl
theorem size8 : ((Tryz.prog.info? 5).getD default).size = 1 := by kernel_rfl
/-- The two rows of the first loop. -/
structure Lq (B : Nat) (v3 v4 : Value) (L : List (Int × Int)) (w : World) : Prop where
  a : w.ownsRow B 138 1 v3 L.length (u64c (L.map (·.1)))
  b : w.ownsRow B 5 1 v4 L.length (bys (L.map (·.2)))
  sep : ∀ g, v3.ownBlock = some g → v4.ownBlock ≠ some g
theorem Lq.fr {B : Nat} {v3 v4 : Value} {L : List (Int × Int)} {w w' : World} {l : List Nat} (h : Lq B v3 v4 L w) (hf : Fr l w w') (hl : ∀ g ∈ l, g < B) : Lq B v3 v4 L w' :=
  ⟨rof_fr h.a hf (fun g hg hm => by have := (World.ownsRow.lt h.a g hg).1; have := hl g hm; omega), rof_fr h.b hf (fun g hg hm => by have := (World.ownsRow.lt h.b g hg).1; have := hl g hm; omega), h.sep⟩
section
variable {c : Nat} {a : Option Addr} {len cap k : Nat} {xs : List Int} {e : Int} {W : World}
theorem rlocals_nil {L : List (Int × Int)} {k2 : Nat} {e2 : Int} (h : Rd (rList rPair) xs k e L k2 e2) (he : e2 ≠ 0) : Rd rLoc xs k e [] k2 e2 := h.bd (Rd.err _ he)
theorem rlocals_110 {L : List (Int × Int)} {k2 : Nat} (h : Rd (rList rPair) xs k e L k2 0) (hs : 4294967295 < sumN L) : Rd rLoc xs k e [] k2 110 :=
  h.bd (Rd.bd (x := ()) (e1 := 110) (by rw [decide_eq_false (by omega)]; exact Rd.tst_f _ _ _ (by decide) _ _ _) (Rd.err _ (by decide)))
theorem rlocals_3 {L : List (Int × Int)} {k2 : Nat} (h : Rd (rList rPair) xs k e L k2 0) (hs : ¬ 4294967295 < sumN L) (ht : 1024 < sumN L) : Rd rLoc xs k e [] k2 3 :=
  h.bd (Rd.bd (x := ()) (e1 := 0) (by rw [decide_eq_true (by omega)]; exact Rd.tst_t _ _ _ _ _ _) (by rw [decide_eq_false (by omega)]; exact Rd.tst_f _ _ _ (by decide) _ _ _))
theorem rlocals_ok {L : List (Int × Int)} {k2 : Nat} (h : Rd (rList rPair) xs k e L k2 0) (ht : ¬ 1024 < sumN L) : Rd rLoc xs k e (spread L) k2 0 :=
  h.bd (Rd.bd (x := ()) (e1 := 0) (by rw [decide_eq_true (by omega)]; exact Rd.tst_t _ _ _ _ _ _) (by rw [decide_eq_true (by omega)]; exact Rd.tst_t _ _ _ _ _ _))
end
end Go.Proofs.YtjoonmpjcophnaaGreatDoor
