/- opcode.By. -/
import Derived.Test.YtkpdanjfdcoldaaOpG
namespace Go.Proofs.Ytkpdanjfdcoldaa
open Go.RowKit
attribute [local go_sem] Oper.semAt_some

/-- The cells that By keeps: the name, and what is answered. -/
def Ab (b : Nat) (nm : ByteArray) (x : Int) (t : Bool) (V : World) : Prop := V.cell? ⟨b, 0, none⟩ = some (.string nm) ∧ (V.cell? ⟨b + 1, 0, none⟩ = some (.int .i64 x) ∧ V.cell? ⟨b + 2, 0, none⟩ = some (.bool t)) ∧ V.frozen? ⟨b + 1, 0, none⟩ = false ∧ V.frozen? ⟨b + 2, 0, none⟩ = false
theorem Ab.below {b : Nat} {nm : ByteArray} {x : Int} {t : Bool} {V V' : World} (h : Ab b nm x t V) (hb : Below V.heap.size V V') : Ab b nm x t V' :=
  ⟨keep1 hb (lt_of_cell h.1) h.1, ⟨keep1 hb (lt_of_cell h.2.1.1) h.2.1.1, keep1 hb (lt_of_cell h.2.1.2) h.2.1.2⟩, (hb.frozen (p := ⟨b + 1, 0, none⟩) (lt_of_cell h.2.1.1)).trans h.2.2.1, (hb.frozen (p := ⟨b + 2, 0, none⟩) (lt_of_cell h.2.1.2)).trans h.2.2.2⟩
theorem ab_own {β : Type} {b : Nat} {nm : ByteArray} {x : β → Int} {t : β → Bool} : Own (fun (s : β) V => Ab b nm (x s) (t s) V) := fun _ _ _ _ h hg hr =>
  ⟨cell_kept h.1 hg hr, ⟨cell_kept h.2.1.1 hg hr, cell_kept h.2.1.2 hg hr⟩, (frozen_kept h.2.1.1 hg hr).trans h.2.2.1, (frozen_kept h.2.1.2 hg hr).trans h.2.2.2⟩
theorem Ab.set2 {b : Nat} {nm : ByteArray} {x : Int} {t : Bool} {V : World} (h : Ab b nm x t V) (x' : Int) (t' : Bool) : Ab b nm x' t' ((V.setCell ⟨b + 1, 0, none⟩ (.int .i64 x')).setCell ⟨b + 2, 0, none⟩ (.bool t')) := by
  obtain ⟨h0, ⟨h1, h2⟩, f1, f2⟩ := h
  have e2 : (V.setCell ⟨b + 1, 0, none⟩ (.int .i64 x')).cell? ⟨b + 2, 0, none⟩ = some (.bool t) := keep_set _ _ _ (by omega) h2
  exact ⟨keep_set _ _ _ (by omega) (keep_set _ _ _ (by omega) h0), ⟨keep_set _ _ _ (by omega) (World.cell?_setCell_same _ _ _ h1), World.cell?_setCell_same _ _ _ e2⟩, by simp [f1], by simp [f2]⟩
theorem below_set2 {B b : Nat} {W V : World} (h : Below B W V) (hb : B ≤ b) (x y : Value) : Below B W ((V.setCell ⟨b + 1, 0, none⟩ x).setCell ⟨b + 2, 0, none⟩ y) :=
  (h.setCell (p := ⟨b + 1, 0, none⟩) (by simp; omega) x).setCell (p := ⟨b + 2, 0, none⟩) (by simp; omega) y
/-- Names that are no name of a run's. -/
def Nt (nm : List UInt8) (l : List (Int × List UInt8)) : Prop := ∀ y ∈ l, y.2 ≠ nm
/-- What By answers of a name. -/
def ByR (nm : List UInt8) (x : Int) (t : Bool) : Prop :=
  (t = false ∧ x = 0 ∧ ∀ j, j < 18 → Nt nm (prs (fs j) (ws j))) ∨ (t = true ∧ ∃ k p r, k < 18 ∧ (∀ j, j < k → Nt nm (prs (fs j) (ws j))) ∧ prs (fs k) (ws k) = p ++ (x, nm) :: r ∧ Nt nm p)
def ByE (nm : List UInt8) (e : Ending) : Prop := ∃ x t, e = .returned (.tuple #[.int .i64 x, .bool t]) ∧ ByR nm x t
set_option maxHeartbeats 8000000 in
set_option maxRecDepth 100000 in
theorem by_s (RV : Value) (HX : Hid (∀ k : Nat, k < 18 → ∀ w, (Instr.index 34 RV (.int .i64 (k : Int))).run Try.prog w = .ok (.agg #[.int .i64 (fs k), .string (bs (jn (ws k)))]) w))
    (HR : Hid (∀ W, Calls Try.prog 9 #[] W fun e W' => e = .returned RV ∧ Below W.heap.size W W'))
    (HS : Hid (∀ k : Nat, k < 18 → Wds (ws k) ∧ (bs (jn (ws k))).size < 4294967281 ∧ 0 ≤ fs k ∧ fs k + (ws k).length < 4294967296)) (nm : List UInt8) (W : World) :
    Calls Try.prog 5 #[.string (bs nm)] W fun e W' => ByE nm e ∧ Below W.heap.size W W' := by
  refine (callsIn_wide (n := 5)).1 ?_
  refine callsIn_of_wp_marks Try.func5 rfl trivial ?_ rfl
  simp only [Try.ntmps5, List.size_toArray, List.length_cons, List.length_nil, Nat.reduceAdd, Nat.reduceSub, Array.replicate_succ, Array.replicate_zero, List.push_toArray, List.append_toArray, List.nil_append, List.cons_append]
  gi_wp2
  refine ⟨trivial, callsIn_wide.2 (((unhide HR) _).mono ?_)⟩
  rintro e w1 ⟨rfl, hb1⟩
  gi_wp2
  have hbW : Below W.heap.size W w1 := (balloc (below2 W _ _) _).trans (hb1.mono (by simp; omega))
  have hA : Ab W.heap.size (bs nm) 0 false w1 := by
    refine Ab.below ?_ hb1
    unfold Ab
    refine ⟨?_, ⟨?_, ?_⟩, ?_, ?_⟩
    all_goals simp [go_sem]
  have hz : W.heap.size + 3 ≤ w1.heap.size := by have := hb1.size; simp at this; omega
  clear hb1
  refine wpIn_loop_rounds 19 (rounds_inv (fun k a V => ∃ (u5 u10 u11 u12 u13 u20 : Value) (Ds : List Nat),
      a = { tmps := #[.string (bs nm), .pointer (some ⟨W.heap.size, 0, none⟩), .pointer (some ⟨W.heap.size + 1, 0, none⟩), .pointer (some ⟨W.heap.size + 2, 0, none⟩), undef, u5, undef, undef, RV, .int .i64 (k : Int), u10, u11, u12, u13, undef, undef, undef, undef, undef, undef, u20], defers := Ds.map mk } ∧
      Mg W.heap.size Ds V ∧ Ab W.heap.size (bs nm) 0 false V ∧ Below W.heap.size W V ∧ W.heap.size + 3 ≤ V.heap.size ∧ ∀ j, j < k → Nt nm (prs (fs j) (ws j))) 18 ?round 18 0 _ _ rfl ?start)
  case start => exact ⟨undef, undef, undef, undef, undef, undef, [], rfl, ⟨List.nodup_nil, fun _ h => by cases h⟩, hA, hbW, hz, fun j h => absurd h (by omega)⟩
  case round =>
    clear hA hbW hz
    rintro k _ V hk ⟨u5, u10, u11, u12, u13, u20, Ds, rfl, hM, hA, hb, hz, hN⟩
    by_cases hk8 : k < 18
    · have hi : (k : Int) < 18 := by omega
      have hix := (unhide HX) k hk8
      have hw : IntKind.i64.wrap ((k : Int) + 1) = ((k + 1 : Nat) : Int) := by rw [i64_id (by omega) (by omega)]; simp
      obtain ⟨hs1, hs2, hs3, hs4⟩ := (unhide HS) k hk8
      replace hN := hide hN
      gi_wp2
      refine ⟨trivial, callsIn_wide.2 ((opcodes_any _ _ _).mono ?_)⟩
      rintro e w2 ⟨rfl, rfl⟩
      gi_wp2
      have hb2 := below2 V (.cells #[.int .i64 (fs k), .string (bs (jn (ws k)))] 33) (.cells #[.int .i64 (fs k), .string (bs (jn (ws k)))] 33)
      have hA2 := hA.below hb2
      have hM2 := (hM.keeps (KeepsOthers.alloc _ (.cells #[.int .i64 (fs k), .string (bs (jn (ws k)))] 33))).keeps (KeepsOthers.alloc _ (.cells #[.int .i64 (fs k), .string (bs (jn (ws k)))] 33))
      have hbB := balloc (balloc hb (.cells #[.int .i64 (fs k), .string (bs (jn (ws k)))] 33)) (.cells #[.int .i64 (fs k), .string (bs (jn (ws k)))] 33)
      have n0 : ((V.alloc (.cells #[.int .i64 (fs k), .string (bs (jn (ws k)))] 33)).alloc (.cells #[.int .i64 (fs k), .string (bs (jn (ws k)))] 33)).cell? ⟨V.heap.size + 1, 0, none⟩ = some (.int .i64 (fs k)) := by simp
      have n1 : ((V.alloc (.cells #[.int .i64 (fs k), .string (bs (jn (ws k)))] 33)).alloc (.cells #[.int .i64 (fs k), .string (bs (jn (ws k)))] 33)).cell? ⟨V.heap.size + 1, 1, none⟩ = some (.string (bs (jn (ws k)))) := by simp
      have hz2 : W.heap.size + 3 ≤ ((V.alloc (.cells #[.int .i64 (fs k), .string (bs (jn (ws k)))] 33)).alloc (.cells #[.int .i64 (fs k), .string (bs (jn (ws k)))] 33)).heap.size := by simp; omega
      obtain ⟨B, hB⟩ : ∃ B, V.heap.size + 1 = B := ⟨_, rfl⟩
      obtain ⟨C, hC⟩ : ∃ C, V.heap.size = C := ⟨_, rfl⟩
      rw [hB] at n0 n1 ⊢
      rw [hC] at ⊢
      generalize (V.alloc (.cells #[.int .i64 (fs k), .string (bs (jn (ws k)))] 33)).alloc (.cells #[.int .i64 (fs k), .string (bs (jn (ws k)))] 33) = w3 at hA2 hM2 hbB n0 n1 hz2 ⊢
      clear hb2 hA hM hb hz hB hC
      refine wpIn_rangeFunc_ownF rfl (by omega) (gf := 19) (lb := #[.pointer (some ⟨B, 0, none⟩)]) rfl trivial (enters_of Try.func19 (by kernel_rfl) rfl)
        (stops 4 (by omega) B (fs k) (ws k) hs1 hs2 hs3 hs4 w3 n0 n1) (fun _ _ => trivial) (fun _ _ _ _ _ _ _ _ => trivial) (Below.refl _ _) (fun _ => rfl)
        (fun pre V => (Nt nm pre ∧ Ab W.heap.size (bs nm) 0 false V ∧ W.heap.size + 3 ≤ V.heap.size) ∧ (Mg W.heap.size Ds V ∧ ∀ D ∈ Ds, D < w3.heap.size) ∧ Below W.heap.size W V)
        (fun c pre V => ((c = .ret ∧ (∃ p x, pre = p ++ [x] ∧ Nt nm p ∧ x.2 = nm ∧ Ab W.heap.size (bs nm) x.1 true V))) ∧ (Mg W.heap.size Ds V ∧ ∀ D ∈ Ds, D < w3.heap.size) ∧ Below W.heap.size W V)
        (OwnFrom.and (Own.from (fun s A B row hs hg hr => ⟨hs.1, ab_own (β := Unit) (x := fun _ => 0) (t := fun _ => false) () A B row hs.2.1 hg hr, Nat.le_trans hs.2.2 hg.size⟩) _) (OwnFrom.and mg_own (ownFrom_below (Nat.le_refl _) (by omega))))
        (fun c => OwnFrom.and (Own.from (fun s A B row hs hg hr => ⟨hs.1, let ⟨p, x, h1, h2, h3, h4⟩ := hs.2; ⟨p, x, h1, h2, h3, ab_own (β := Unit) (x := fun _ => x.1) (t := fun _ => true) () A B row h4 hg hr⟩⟩) _) (OwnFrom.and mg_own (ownFrom_below (Nat.le_refl _) (by omega))))
        ⟨⟨fun _ h => (by cases h), hA2, hz2⟩, ⟨hM2, hM2.lt⟩, hbB⟩
        (fun x => { tmps := #[.string (bs nm), .pointer (some ⟨W.heap.size, 0, none⟩), .pointer (some ⟨W.heap.size + 1, 0, none⟩), .pointer (some ⟨W.heap.size + 2, 0, none⟩), undef, .pointer (some ⟨C, 0, none⟩), .int .i64 x.1, .string (bs x.2), RV, .int .i64 (k : Int), .bool true, .agg #[.int .i64 (fs k), .string (bs (jn (ws k)))], .agg #[.int .i64 (fs k), .string (bs (jn (ws k)))], .func (.func 19) #[] #[.pointer (some ⟨B, 0, none⟩)], .int .i64 x.1, .string (bs x.2), undef, undef, undef, undef, u20], defers := [] }) ?assign ?body ?done ?stop
      case assign =>
        intro l x V K hK
        gi_wp2
        exact hK
      case body =>
        rintro l pre x V ⟨⟨hp, hA, hzV⟩, ⟨hM, hl⟩, hB⟩ _
        obtain ⟨h0, ⟨h1, h2⟩, f1, f2⟩ := hA
        by_cases hx : x.2 = nm
        · have hx' : ((bs x.2).toList == (bs nm).toList) = true := by simp [hx]
          gi_wp2
          exact ⟨(KeepsOthers.setCell _ _ _).trans (KeepsOthers.setCell _ _ _), ⟨rfl, pre, x, rfl, hp, hx, Ab.set2 ⟨h0, ⟨h1, h2⟩, f1, f2⟩ x.1 true⟩, ⟨(hM.keeps (KeepsOthers.setCell _ _ _)).keeps (KeepsOthers.setCell _ _ _), hl⟩, below_set2 hB (Nat.le_refl _) _ _⟩
        · have hx' : ((bs x.2).toList == (bs nm).toList) = false := by simp [bs, Lib.toList_data, hx]
          gi_wp2
          exact ⟨KeepsOthers.refl _, trivial, ⟨fun y hy => (List.mem_append.1 hy).elim (hp y) (fun e => by simp at e; subst e; exact hx), ⟨h0, ⟨h1, h2⟩, f1, f2⟩, hzV⟩, ⟨hM, hl⟩, hB⟩
      case done =>
        rintro D ys V hD rfl ⟨⟨hne, hA, hzV⟩, ⟨hM, hl⟩, hB⟩ hK
        gi_wp2
        refine ⟨hk8, _, _, _, _, _, _, D :: Ds, by rw [List.map_cons]; rfl, hM.cons hl hD (by omega) hK, hA, hB, hzV, fun j hj => ?_⟩
        rcases Nat.lt_succ_iff_lt_or_eq.1 hj with h | h
        · exact (unhide hN) j h
        · subst h; exact hne
      case stop =>
        rintro D c pre V hD ⟨r, hr⟩ ⟨⟨rfl, p, x, rfl, hp, hx, hA⟩, ⟨hM, hl⟩, hB⟩ hK
        gi_wp2
        refine leaves_marks (B := W.heap.size) (I := fun _ V => Ab W.heap.size (bs nm) x.1 true V ∧ Below W.heap.size W V) (OwnFrom.and (Own.from ab_own _) (ownFrom_below (Nat.le_refl _) (Nat.le_refl _))) ?_ (D :: Ds) _ (hM.cons hl hD (by omega) hK) ⟨hA, hB⟩
        rintro V ⟨⟨-, ⟨e1, e2⟩, -⟩, hbV⟩
        exact ⟨.tuple #[.int .i64 x.1, .bool true], by simp [results, Try.f5, go_sem, e1, e2], ⟨x.1, true, rfl, .inr ⟨rfl, k, p, r, hk8, unhide hN, by rw [← hr, ← hx]; simp, hp⟩⟩, hbV⟩
    · obtain rfl : k = 18 := by omega
      have hi : ¬ (((18 : Nat) : Int) < 18) := by omega
      obtain ⟨d0, ⟨d1, d2⟩, g1, g2⟩ := hA
      replace hN := hide hN
      gi_wp2
      refine leaves_marks (B := W.heap.size) (I := fun _ V => Ab W.heap.size (bs nm) 0 false V ∧ Below W.heap.size W V) (OwnFrom.and (Own.from ab_own _) (ownFrom_below (Nat.le_refl _) (Nat.le_refl _))) ?_ Ds _ ((hM.keeps (KeepsOthers.setCell _ _ _)).keeps (KeepsOthers.setCell _ _ _)) ⟨Ab.set2 ⟨d0, ⟨d1, d2⟩, g1, g2⟩ 0 false, below_set2 hb (Nat.le_refl _) _ _⟩
      rintro V ⟨⟨-, ⟨e1, e2⟩, -⟩, hbV⟩
      exact ⟨.tuple #[.int .i64 0, .bool false], by simp [results, Try.f5, go_sem, e1, e2], ⟨0, false, rfl, .inl ⟨rfl, rfl, unhide hN⟩⟩, hbV⟩

end Go.Proofs.Ytkpdanjfdcoldaa
