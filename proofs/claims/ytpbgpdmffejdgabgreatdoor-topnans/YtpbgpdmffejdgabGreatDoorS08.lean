/- WWide2, WRefA, WRefB, WRefC, WRefF, WRefG, WRefH, WRefI, WNew, WRefJ, WMulA, WRefK. -/
import Derived.Test.YtpbgpdmffejdgabGreatDoorS04
import Derived.Test.YtpbgpdmffejdgabGreatDoorS07
import Derived.LoopTactic
import Derived.Deep.Cut
import Derived.Deep.RegionHeld3
import Derived.Laws.MakeOwn
import Derived.Laws.OwnMore
namespace Go.Proofs.YtpbgpdmffejdgabGreatDoor.W
open Go.RowKit

theorem bcell {W w1 : World} (hb : Below W.heap.size W w1) : (∀ b o, b < W.heap.size → w1.cell? ⟨b, o, none⟩ = W.cell? ⟨b, o, none⟩) ∧ (∀ b o, b < W.heap.size → w1.frozen? ⟨b, o, none⟩ = W.frozen? ⟨b, o, none⟩) :=
  ⟨fun b o h => hb.cell (p := ⟨b, o, none⟩) h, fun b o h => hb.frozen (p := ⟨b, o, none⟩) h⟩

/-- A number by a power of two, down. -/
def shrN (v : Nat) (n : Int) : Nat := v / 2 ^ n.toNat
theorem shrN_w {v : Nat} (n : Int) (hv : W2 v) : W2 (shrN v n) := Nat.lt_of_le_of_lt (Nat.div_le_self _ _) hv

set_option maxHeartbeats 1000000 in
theorem down_n (v : Nat) (n : Int) (w : World) (hv : W2 v) :
    Calls Tryz.prog 175 #[.agg #[.int .u64 (hi v), .int .u64 (lo v)], .int .i64 n] w fun e w' => e = .returned (.agg #[.int .u64 (hi (shrN v n)), .int .u64 (lo (shrN v n))]) ∧ Below w.heap.size w w' := by
  by_cases c1 : n ≤ 0
  · have HE : Hid (v = shrN v n) := by
      unfold Hid shrN; rw [show n.toNat = 0 by omega, Nat.pow_zero, Nat.div_one]
    go_enter Tryz.func175, Tryz.ntmps175
    go_wp2
    exact bodyPost_ret (v := .agg #[.int .u64 (hi v), .int .u64 (lo v)]) (by simp [results, Tryz.results175, go_sem]) rfl ⟨by rw [← HE.out], below2 _ _ _⟩
  by_cases c2 : n < 64
  · have HA : Hid (hi v / 2 ^ n.toNat = hi (shrN v n)) := by
      unfold Hid hi shrN
      rw [shr_nat, right_hi]
    have HB : Hid (bits .or .u64 (lo v / 2 ^ n.toNat) (IntKind.u64.wrap (hi v * 2 ^ (64 - n).toNat)) = lo (shrN v n)) := by
      unfold Hid hi lo shrN
      rw [shl_nat, shr_nat, show (64 - n).toNat = 64 - n.toNat by omega]
      exact or_words _ _ _ (Nat.lt_of_le_of_lt (Nat.div_le_self _ _) (by omega)) (by omega) (right_lo v n.toNat (by omega))
    go_enter Tryz.func175, Tryz.ntmps175
    go_wp2
    go_region
    go_wp2
    exact bodyPost_ret (v := .agg #[.int .u64 (hi v / 2 ^ n.toNat), .int .u64 (bits .or .u64 (lo v / 2 ^ n.toNat) (IntKind.u64.wrap (hi v * 2 ^ (64 - n).toNat)))]) (by simp [results, Tryz.results175, go_sem]) rfl ⟨by rw [HA.out, HB.out], below2d _ _ _⟩
  by_cases c3 : n < 128
  · have HE : Hid ((hi v / 2 ^ (n - 64).toNat).toNat = shrN v n) := by
      unfold Hid hi shrN
      rw [shr_nat, Int.toNat_natCast, right_64, show 64 + (n - 64).toNat = n.toNat by omega]
    have k0 : 0 ≤ hi v / 2 ^ (n - 64).toNat := by unfold hi; rw [shr_nat]; exact Int.natCast_nonneg _
    have k1 : hi v / 2 ^ (n - 64).toNat < 18446744073709551616 := by
      have := hi_1 hv
      unfold hi at this ⊢; rw [shr_nat]
      exact Int.lt_of_le_of_lt (Int.ofNat_le.2 (Nat.div_le_self (v / 18446744073709551616) (2 ^ (n - 64).toNat))) this
    go_enter Tryz.func175, Tryz.ntmps175
    go_wp2_with fail
    refine (of_n _ _ k0 k1).mono ?_
    rintro e w1 ⟨rfl, hb⟩
    rw [HE.out]
    obtain ⟨hc, hf⟩ := bcell hb
    have hz : w.heap.size + 1 < w1.heap.size := by have := hb.size; simp at this; omega
    go_wp2
    exact bodyPost_ret (v := .agg #[.int .u64 (hi (shrN v n)), .int .u64 (lo (shrN v n))]) (by simp [results, Tryz.results175, go_sem, hc]) rfl ⟨rfl, (((below2 _ _ _).trans (hb.mono (by simp; omega))).setCell (by simp) _).setCell (by simp) _⟩
  · have HE : Hid (shrN v n = 0) := by
      unfold Hid shrN; rw [show n.toNat = 128 + (n - 128).toNat by omega, right_128 _ _ hv]
    go_enter Tryz.func175, Tryz.ntmps175
    go_wp2
    exact bodyPost_ret (v := .agg #[.int .u64 0, .int .u64 0]) (by simp [results, Tryz.results175, go_sem]) rfl ⟨by rw [HE.out]; rfl, below2 _ _ _⟩

/-- Whether something is lost by it. -/
def lostB (v : Nat) (n : Int) : Bool := decide (v % 2 ^ n.toNat ≠ 0)

theorem lost_iff (v : Nat) (n : Int) (hv : W2 v) : shlN (shrN v n) n = v ↔ lostB v n = false := by
  unfold shlN shrN lostB
  have h1 : v / 2 ^ n.toNat * 2 ^ n.toNat + v % 2 ^ n.toNat = v := Nat.div_add_mod' _ _
  unfold W2 at hv
  rw [Nat.mod_eq_of_lt (by omega)]
  simp
  omega

/-- Two cells of two words: what a store of the very same values leaves. -/
theorem keep_right {w' : World} {b : Nat} {x0 x1 y0 y1 : Value}
    (h : w'.cell? ⟨b, 0, none⟩ = some x0 ∧ w'.cell? ⟨b, 1, none⟩ = some x1 ∧ w'.cell? ⟨b + 1, 0, none⟩ = some y0 ∧ w'.cell? ⟨b + 1, 1, none⟩ = some y1) :
    ((w'.setCell ⟨b + 1, 0, none⟩ y0).setCell ⟨b + 1, 1, none⟩ y1).cell? ⟨b, 0, none⟩ = some x0 ∧ ((w'.setCell ⟨b + 1, 0, none⟩ y0).setCell ⟨b + 1, 1, none⟩ y1).cell? ⟨b, 1, none⟩ = some x1 ∧
      ((w'.setCell ⟨b + 1, 0, none⟩ y0).setCell ⟨b + 1, 1, none⟩ y1).cell? ⟨b + 1, 0, none⟩ = some y0 ∧ ((w'.setCell ⟨b + 1, 0, none⟩ y0).setCell ⟨b + 1, 1, none⟩ y1).cell? ⟨b + 1, 1, none⟩ = some y1 := by
  obtain ⟨h1, h2, h3, h4⟩ := h
  refine ⟨?_, ?_, ?_, ?_⟩
  · rw [World.cell?_setCell_other _ _ _ _ (by simp), World.cell?_setCell_other _ _ _ _ (by simp)]; exact h1
  · rw [World.cell?_setCell_other _ _ _ _ (by simp), World.cell?_setCell_other _ _ _ _ (by simp)]; exact h2
  · rw [World.cell?_setCell_other _ _ _ _ (by simp)]; exact World.cell?_setCell_same _ _ _ h3
  · exact World.cell?_setCell_same _ _ _ (u := y1) (by rw [World.cell?_setCell_other _ _ _ _ (by simp)]; exact h4)

theorem right_case (v : Nat) (n : Int) (w : World) (hv : W2 v) (b : Bool)
    (hq : (hi (shlN (shrN v n) n) == hi v) = true ∧ (lo (shlN (shrN v n) n) == lo v) = true ∧ b = false ∨ (hi (shlN (shrN v n) n) == hi v) = true ∧ (lo (shlN (shrN v n) n) == lo v) = false ∧ b = true ∨ (hi (shlN (shrN v n) n) == hi v) = false ∧ b = true) :
    Calls Tryz.prog 161 #[.agg #[.int .u64 (hi v), .int .u64 (lo v)], .int .i64 n] w fun e w' => e = .returned (.tuple #[.agg #[.int .u64 (hi (shrN v n)), .int .u64 (lo (shrN v n))], .bool b]) ∧ Below w.heap.size w w' := by
  rcases hq with ⟨q1, q2, rfl⟩ | ⟨q1, q2, rfl⟩ | ⟨q1, rfl⟩
  all_goals
    go_enter Tryz.func161, Tryz.ntmps161
    go_wp2_with fail
    refine (down_n v n _ hv).mono ?_
    rintro e w1 ⟨rfl, hb⟩
    obtain ⟨hc, hf⟩ := bcell hb
    have hz : w.heap.size + 1 < w1.heap.size := by have := hb.size; simp at this; omega
    have hz' : w.heap.size < w1.heap.size := by omega
    go_wp2_with fail
    go_region_held3 (fun w' => w'.cell? ⟨w.heap.size, 0, none⟩ = some (.int .u64 (hi v)) ∧ w'.cell? ⟨w.heap.size, 1, none⟩ = some (.int .u64 (lo v)) ∧ w'.cell? ⟨w.heap.size + 1, 0, none⟩ = some (.int .u64 (hi (shrN v n))) ∧ w'.cell? ⟨w.heap.size + 1, 1, none⟩ = some (.int .u64 (lo (shrN v n)))) (first | (simp [go_sem, *]; done) | exact keep_right ‹_›)
      (first | (go_at_call 144; refine (left_n (shrN v n) n _ (shrN_w n hv)).mono ?_; rintro e w2 ⟨rfl, hb2⟩; obtain ⟨hc2, hf2⟩ := bcell hb2))
    go_wp2
    refine bodyPost_ret (v := .tuple #[.agg #[.int .u64 (hi (shrN v n)), .int .u64 (lo (shrN v n))], .bool _]) ?_ rfl ⟨rfl, ?_⟩
    · simp [results, Tryz.results161, go_sem, *]
    · exact (((((((below2 _ _ _).trans (hb.mono (by simp; omega))).setCell (by simp) _).setCell (by simp) _).drew).trans (hb2.mono (by simp; omega))).setCell (by simp) _).setCell (by simp) _

theorem right_n (v : Nat) (n : Int) (w : World) (hv : W2 v) :
    Calls Tryz.prog 161 #[.agg #[.int .u64 (hi v), .int .u64 (lo v)], .int .i64 n] w fun e w' => e = .returned (.tuple #[.agg #[.int .u64 (hi (shrN v n)), .int .u64 (lo (shrN v n))], .bool (lostB v n)]) ∧ Below w.heap.size w w' := by
  refine right_case v n w hv (lostB v n) ?_
  have hl := lost_iff v n hv
  by_cases h1 : hi (shlN (shrN v n) n) = hi v
  · by_cases h2 : lo (shlN (shrN v n) n) = lo v
    · exact Or.inl ⟨by simp [h1], by simp [h2], hl.1 (words_inj h1 h2)⟩
    · refine Or.inr (Or.inl ⟨by simp [h1], by simp [h2], ?_⟩)
      cases hb : lostB v n with
      | true => rfl
      | false => exact absurd (by rw [hl.2 hb]) h2
  · refine Or.inr (Or.inr ⟨by simp [h1], ?_⟩)
    cases hb : lostB v n with
    | true => rfl
    | false => exact absurd (by rw [hl.2 hb]) h1

theorem hide {p : Prop} (h : p) : Hid p := h
theorem unhide {p : Prop} (h : Hid p) : p := h
theorem keep2 {W w' : World} {b : Nat} {x y : Value} (hb : Below W.heap.size W w') (hz : b < W.heap.size) (h : W.cell? ⟨b, 0, none⟩ = some x ∧ W.cell? ⟨b, 1, none⟩ = some y) :
    w'.cell? ⟨b, 0, none⟩ = some x ∧ w'.cell? ⟨b, 1, none⟩ = some y :=
  ⟨by rw [hb.cell (p := ⟨b, 0, none⟩) hz]; exact h.1, by rw [hb.cell (p := ⟨b, 1, none⟩) hz]; exact h.2⟩
theorem bthen {a b c : World} (h : Below a.heap.size a b) (k : Below b.heap.size b c) : Below a.heap.size a c := h.trans (k.mono h.size)
theorem balloc {a b : World} (h : Below a.heap.size a b) (o : Obj) : Below a.heap.size a (b.alloc o) := h.alloc h.size o

end Go.Proofs.YtpbgpdmffejdgabGreatDoor.W
namespace Go.Proofs.YtpbgpdmffejdgabGreatDoor.W
open Go.RowKit

/-- A slice of uint64 that holds these digits. -/
def Holds (w : World) (s : Value) (D : List Nat) : Prop :=
  (s = .slice none 0 0 ∧ D = []) ∨ ∃ g c, s = .slice (some ⟨g, 0, none⟩) D.length c ∧ g < w.heap.size ∧ D.length ≤ c ∧ D.length ≤ 1000000 ∧ ∀ i, i < D.length → w.cell? ⟨g, i, none⟩ = some (.int .u64 ((dg D i : Nat) : Int))

theorem Holds.below {w w' : World} {s : Value} {D : List Nat} (h : Holds w s D) (hb : Below w.heap.size w w') : Holds w' s D := by
  rcases h with h | ⟨g, c, h1, h2, h3, h4, h5⟩
  · exact Or.inl h
  · exact Or.inr ⟨g, c, h1, Nat.lt_of_lt_of_le h2 hb.size, h3, h4, fun i hi => by rw [hb.cell (p := ⟨g, i, none⟩) h2]; exact h5 i hi⟩

/-- A Nat of the reference: canonical digits of x. -/
def IsNat (w : World) (s : Value) (x : Nat) : Prop := ∃ D, Holds w s D ∧ Small D ∧ Canon D ∧ val D = x
theorem IsNat.below {w w' : World} {s : Value} {x : Nat} (h : IsNat w s x) (hb : Below w.heap.size w w') : IsNat w' s x := by
  obtain ⟨D, h1, h2⟩ := h
  exact ⟨D, h1.below hb, h2⟩

theorem IsNat.slice {w : World} {s : Value} {x : Nat} (h : IsNat w s x) : ∃ a n c, s = .slice a n c := by
  obtain ⟨D, h1 | ⟨g, c, h1, _⟩, _⟩ := h
  · exact ⟨_, _, _, h1.1⟩
  · exact ⟨_, _, _, h1⟩
/-- A store into a variable that holds a slice turns no digit. -/
theorem IsNat.store {w : World} {s : Value} {x : Nat} {b : Nat} {a : Option Addr} {n c : Nat} (h : IsNat w s x) (hc : w.cell? ⟨b, 0, none⟩ = some (.slice a n c)) (v : Value) : IsNat (w.setCell ⟨b, 0, none⟩ v) s x := by
  obtain ⟨D, h1 | ⟨g, c', h1, h2, h3, h4, h5⟩, hD⟩ := h
  · exact ⟨D, Or.inl h1, hD⟩
  · refine ⟨D, Or.inr ⟨g, c', h1, by simpa using h2, h3, h4, fun i hi => ?_⟩, hD⟩
    have hne : g ≠ b := by
      intro he
      subst he
      have := h5 0 (by omega)
      rw [hc] at this
      cases this
    rw [World.cell?_setCell_other _ _ _ _ (by intro he; injection he with he1; exact hne he1.symm)]
    exact h5 i hi

end Go.Proofs.YtpbgpdmffejdgabGreatDoor.W
namespace Go.Proofs.YtpbgpdmffejdgabGreatDoor.W
open Go.RowKit

/-- A digit of a number. -/
def dgt (x k : Nat) : Nat := x / pw k % 4294967296
theorem IsNat.drewN {w : World} {s : Value} {x : Nat} (h : IsNat w s x) (n : Nat) : IsNat (w.drewN n) s x := h.below (below_drewN (Below.refl _ _) n)
theorem IsNat.alloc {w : World} {s : Value} {x : Nat} (h : IsNat w s x) (o : Obj) : IsNat (w.alloc o) s x := h.below (below1 _ _)

theorem bitLen_half {t : Nat} (h : ¬ t = 0) : Go.bitLen t = 1 + Go.bitLen (t / 2) := by
  by_cases h2 : t / 2 = 0
  · have : t = 1 := by omega
    subst this; rfl
  · have := Go.bitLen_shift t 1 (by simpa using h2)
    simpa using this

end Go.Proofs.YtpbgpdmffejdgabGreatDoor.W
namespace Go.Proofs.YtpbgpdmffejdgabGreatDoor.W
open Go.RowKit

/-- The length of a Nat's slice: beyond it there is nothing. -/
theorem IsNat.len {w : World} {a : Option Addr} {n c x : Nat} (h : IsNat w (.slice a n c) x) : x < pw n ∧ n ≤ 1000000 := by
  obtain ⟨D, hH, hs, hC, rfl⟩ := h
  have hv := val_lt hs
  rcases hH with ⟨h1, h2⟩ | ⟨g, c', h1, h2, h3, h4, h5⟩
  · injection h1 with e1 e2 e3; subst e2 h2; exact ⟨hv, by omega⟩
  · injection h1 with e1 e2 e3; subst e2; exact ⟨hv, by omega⟩

end Go.Proofs.YtpbgpdmffejdgabGreatDoor.W
namespace Go.Proofs.YtpbgpdmffejdgabGreatDoor.W
open Go.RowKit

theorem IsNat.digit {w : World} {a : Option Addr} {n c x k : Nat} (h : IsNat w (.slice a n c) x) (hk : k < n) : ∃ g, a = some ⟨g, 0, none⟩ ∧ w.cell? ⟨g, k, none⟩ = some (.int .u64 ((dgt x k : Nat) : Int)) := by
  obtain ⟨D, hH, hs, hC, rfl⟩ := h
  rcases hH with ⟨h1, h2⟩ | ⟨g, c', h1, h2, h3, h4, h5⟩
  · injection h1 with e1 e2 e3; omega
  · injection h1 with e1 e2 e3
    refine ⟨g, e1, ?_⟩
    have := h5 k (by omega)
    rw [at_val D k hs] at this
    exact this

end Go.Proofs.YtpbgpdmffejdgabGreatDoor.W
namespace Go.Proofs.YtpbgpdmffejdgabGreatDoor.W
open Go.RowKit

theorem unit_le (k : Nat) : 2 ^ (k % 32) ≤ 2147483648 := by
  have h1 := Nat.pow_le_pow_right (show 0 < 2 by omega) (show k % 32 ≤ 31 by omega)
  exact h1

end Go.Proofs.YtpbgpdmffejdgabGreatDoor.W
namespace Go.Proofs.YtpbgpdmffejdgabGreatDoor.W
open Go.RowKit

theorem IsNat.short {w : World} {a : Option Addr} {n c x k : Nat} (h : IsNat w (.slice a n c) x) (hx : x < pw k) : n ≤ k := by
  obtain ⟨D, hH, hs, hC, rfl⟩ := h
  have := canon_len hC hx
  rcases hH with ⟨h1, h2⟩ | ⟨g, c', h1, h2, h3, h4, h5⟩
  · injection h1 with e1 e2 e3; omega
  · injection h1 with e1 e2 e3; omega
end Go.Proofs.YtpbgpdmffejdgabGreatDoor.W
namespace Go.Proofs.YtpbgpdmffejdgabGreatDoor.W
open Go.RowKit

/-- The division's variables at a round's head. -/
structure DivSt (N : Nat) (w wr : World) (b Qs Rs : Value) (y Q R : Nat) : Prop where
  cb : wr.cell? ⟨N + 1, 0, none⟩ = some b
  c2 : wr.cell? ⟨N + 1 + 1, 0, none⟩ = some (.slice none 0 0)
  c3 : wr.cell? ⟨N + 1 + 1 + 1, 0, none⟩ = some (.slice none 0 0)
  cq : wr.cell? ⟨N + 1 + 1 + 1 + 1, 0, none⟩ = some Qs
  cr : wr.cell? ⟨N + 1 + 1 + 1 + 1 + 1, 0, none⟩ = some Rs
  f2 : wr.frozen? ⟨N + 1 + 1, 0, none⟩ = false
  f3 : wr.frozen? ⟨N + 1 + 1 + 1, 0, none⟩ = false
  fq : wr.frozen? ⟨N + 1 + 1 + 1 + 1, 0, none⟩ = false
  fr : wr.frozen? ⟨N + 1 + 1 + 1 + 1 + 1, 0, none⟩ = false
  sz : N + 1 + 1 + 1 + 1 + 1 < wr.heap.size
  nb : IsNat wr b y
  nq : IsNat wr Qs Q
  nr : IsNat wr Rs R
  bel : Below N w wr

theorem DivSt.below {N : Nat} {w wr w' : World} {b Qs Rs : Value} {y Q R : Nat} (h : DivSt N w wr b Qs Rs y Q R) (hb : Below wr.heap.size wr w') : DivSt N w w' b Qs Rs y Q R := by
  have hz := h.sz
  have k : ∀ j, j < wr.heap.size → w'.cell? ⟨j, 0, none⟩ = wr.cell? ⟨j, 0, none⟩ := fun j hj => hb.cell (p := ⟨j, 0, none⟩) hj
  have l : ∀ j, j < wr.heap.size → w'.frozen? ⟨j, 0, none⟩ = wr.frozen? ⟨j, 0, none⟩ := fun j hj => hb.frozen (p := ⟨j, 0, none⟩) hj
  exact { cb := by rw [k _ (by omega)]; exact h.cb, c2 := by rw [k _ (by omega)]; exact h.c2, c3 := by rw [k _ (by omega)]; exact h.c3, cq := by rw [k _ (by omega)]; exact h.cq, cr := by rw [k _ (by omega)]; exact h.cr,
          f2 := by rw [l _ (by omega)]; exact h.f2, f3 := by rw [l _ (by omega)]; exact h.f3, fq := by rw [l _ (by omega)]; exact h.fq, fr := by rw [l _ (by omega)]; exact h.fr,
          sz := Nat.lt_of_lt_of_le hz hb.size, nb := h.nb.below hb, nq := h.nq.below hb, nr := h.nr.below hb, bel := h.bel.trans (hb.mono (by omega)) }

theorem frozen_set (w : World) (p q : Addr) (v : Value) : (w.setCell p v).frozen? q = w.frozen? q := by simp [go_sem]
end Go.Proofs.YtpbgpdmffejdgabGreatDoor.W
namespace Go.Proofs.YtpbgpdmffejdgabGreatDoor.W
open Go.RowKit

section
variable {P : Program} {ops : Array Oper} {Q : Exit → Act → World → Prop} {md : Region.Mode} {S : World → Prop}

/-- Operation j neither looks at temporary d nor writes it. -/
def noTouch (ops : Array Oper) (j d : Nat) : Bool :=
  match ops[j]? with
  | some o => !(o.looksAt ops).contains d && o.dst != some d
  | none => false

/-- Whether a pointer lies already in a temporary that operation j does not touch makes no difference to it. -/
theorem wpOp_over {j d : Nat} {v : Value} (hn : noTouch ops j d = true) (hs : Region.noSelect ops = true)
    (hQ : ∀ c a w, Q (.panic c) a w → Q (.panic c) (a.put (some d) v) w) {K : Act → World → Prop} {a : Act} {w : World}
    (h : wpOp P ops Q j (fun a' w' => K (a'.put (some d) v) w') a w) : wpOp P ops Q j K (a.put (some d) v) w := by
  unfold noTouch at hn
  cases hj : ops[j]? with
  | none => simp [hj] at hn
  | some oj =>
    simp [hj] at hn
    obtain ⟨h1', h2'⟩ := hn
    have h1 : ∀ e, some d = some e → e ∉ oj.looksAt ops := fun e he => by injection he with he; subst he; exact h1'
    have h2 : ∀ e, oj.dst = some e → some d ≠ some e := fun e he hd => h2' (by rw [he, hd])
    have hsj : ∀ cs b, oj.op ≠ .select cs b := fun cs b => Region.noSelect_spec hs j oj cs b hj
    unfold wpOp at *
    simp only [hj] at *
    rw [wanted_put oj a (some d) v h1]
    split
    · rename_i hw
      simp only [hw, if_true] at h
      rcases h with h | ⟨hasks, hlets⟩
      case inr => exact .inr ⟨by unfold Oper.asks at *; rw [execOp_put oj hsj a (some d) v h1]; exact hasks, hlets⟩
      refine .inl ?_
      unfold Oper.wp at *
      rw [execOp_put oj hsj a (some d) v h1]
      generalize (execOp a.eval oj).run P w = r at *
      cases r with
      | ok n w' =>
        cases n <;> simp only [Oper.upon] at h ⊢
        case value u => rw [← Act.put_comm a u v h2]; exact h
        case skip => rw [← Act.put_comm a undef v h2]; exact h
        case defer dd =>
          rw [Act.put_defers, ← Act.put_comm _ undef v h2]
          exact h
        case enter f args =>
          refine Calls.mono h fun e w'' he => ?_
          cases e with
          | returned u => simp only [] at he ⊢; rw [← Act.put_comm a u v h2]; exact he
          | panicked c => exact hQ _ _ _ he
          | outgrown => exact he
        case row row args => exact Rows.mono h fun u w'' he => by rw [← Act.put_comm a u v h2]; exact he
      | halt x w' =>
        cases x <;> simp only [Oper.upon] at h ⊢
        case panic u => exact hQ _ _ _ h
        all_goals exact h
    · rename_i hw
      simp only [hw] at h
      rw [← Act.put_comm a undef v h2]; exact h

def ptr (b : Nat) : Value := .pointer (some ⟨b, 0, none⟩)

/-- What holds keeps holding where only new memory is touched. -/
def Stable (T : World → Prop) : Prop := ∀ w w', T w → Below w.heap.size w w' → T w'

/-- A new variable that still holds its zero value. -/
structure Fresh (N : Nat) (v : Value) (b : Nat) (w : World) : Prop where
  cell : w.cell? ⟨b, 0, none⟩ = some v
  thawed : w.frozen? ⟨b, 0, none⟩ = false
  size : b < w.heap.size
  base : N ≤ b
theorem Fresh.below {N b : Nat} {v : Value} {w w' : World} (h : Fresh N v b w) (hb : Below w.heap.size w w') : Fresh N v b w' :=
  ⟨by rw [hb.cell (p := ⟨b, 0, none⟩) h.size]; exact h.cell, by rw [hb.frozen (p := ⟨b, 0, none⟩) h.size]; exact h.thawed, Nat.lt_of_lt_of_le h.size hb.size, h.base⟩
theorem Fresh.new {N : Nat} {v : Value} {t : TypeId} {w : World} (h : N ≤ w.heap.size) : Fresh N v w.heap.size (w.alloc (.cells #[v] t)) :=
  ⟨by simp, by simp [go_sem], by simp, h⟩

/-- Operation i makes a new variable, whatever the state and the world are. -/
def Makes (P : Program) (ops : Array Oper) (Q : Exit → Act → World → Prop) (i d : Nat) (v : Value) (t : TypeId) : Prop :=
  ∀ (a : Act) (w : World) (K : Act → World → Prop), K (a.put (some d) (ptr w.heap.size)) (w.alloc (.cells #[v] t)) → wpOp P ops Q i K a w

theorem not_ready {L : Array Bool} {i : Nat} : i ∉ Region.ready md ops (L.setIfInBounds i true) := by
  intro h
  have h0 := (mem_ready.1 h).1
  rw [Array.getD_eq_getD_getElem?, Array.getElem?_setIfInBounds] at h0
  simp at h0
  split at h0 <;> simp_all

variable {N i1 d1 i2 d2 : Nat} {v1 v2 : Value} {t1 t2 : TypeId} {f : Nat}

theorem alloc_stable {T : World → Prop} (h : Stable T) {w : World} (hT : T w) (o : Obj) : T (w.alloc o) := h _ _ hT (below1 _ _)

theorem yields_over {i d : Nat} {oi : Oper} {v p : Value} {a : Act} (hi : ops[i]? = some oi) (hs : Region.noSelect ops = true) (hn : noTouch ops i d = true) (h : YieldsIf P ops S oi v a) : YieldsIf P ops S oi v (a.put (some d) p) := by
  unfold noTouch at hn
  simp [hi] at hn
  have h1 : ∀ e, some d = some e → e ∉ oi.looksAt ops := fun e he => by injection he with he; subst he; exact hn.1
  exact h.of_same (execOp_put oi (fun cs b => Region.noSelect_spec hs i oi cs b hi) a (some d) p h1) (wanted_put oi a (some d) p h1)

theorem dst_ne {i d : Nat} {oi : Oper} (hi : ops[i]? = some oi) (hn : noTouch ops i d = true) : ∀ e, oi.dst = some e → some d ≠ some e := by
  unfold noTouch at hn
  simp [hi] at hn
  exact fun e he hd => hn.2 (by rw [he, hd])

theorem anyH_at {fuel : Nat} {listed : Array Bool} {a : Act} {w : World} (l : Array Bool) (h : listed = l) (k : wpAnyH P md ops Q S fuel l a w) : wpAnyH P md ops Q S fuel listed a w := h ▸ k
theorem Stable.and {A B : World → Prop} (ha : Stable A) (hb : Stable B) : Stable (fun w => A w ∧ B w) := fun w w' h k => ⟨ha w w' h.1 k, hb w w' h.2 k⟩
theorem stable_below (w0 : World) : Stable (fun w => Below w0.heap.size w0 w) := fun _ _ h k => bthen h k
end
end Go.Proofs.YtpbgpdmffejdgabGreatDoor.W
namespace Go.Proofs.YtpbgpdmffejdgabGreatDoor.W
open Go.RowKit

theorem IsNat.pos {w : World} {a : Option Addr} {n c x : Nat} (h : IsNat w (.slice a n c) x) : (0 < n) = (x ≠ 0) := by
  refine propext ⟨fun hn hx => ?_, fun hx => ?_⟩
  · have := h.short (k := 0) (by rw [pw_0]; omega)
    omega
  · refine Decidable.byContradiction fun hn => ?_
    have := h.len.1
    rw [show n = 0 by omega, pw_0] at this
    omega

end Go.Proofs.YtpbgpdmffejdgabGreatDoor.W
namespace Go.Proofs.YtpbgpdmffejdgabGreatDoor.W

theorem dg_set {D : List Nat} {j e i : Nat} (h : j < D.length) : dg (D.set j e) i = if j = i then e else dg D i := by
  unfold dg
  by_cases hji : j = i
  · subst hji
    simp [List.getD_eq_getElem?_getD, h]
  · simp [List.getD_eq_getElem?_getD, hji]

end Go.Proofs.YtpbgpdmffejdgabGreatDoor.W
namespace Go.Proofs.YtpbgpdmffejdgabGreatDoor.W
open Go.RowKit

/-- A made row of digits, of this length, in a block of its own. -/
structure Buf (g L : Nat) (D : List Nat) (w : World) : Prop where
  len : D.length = L
  size : g < w.heap.size
  cell : ∀ j, j < L → w.cell? ⟨g, j, none⟩ = some (.int .u64 ((dg D j : Nat) : Int))
  thawed : ∀ j, w.frozen? ⟨g, j, none⟩ = false

theorem Buf.store {g L j e : Nat} {D : List Nat} {w : World} (h : Buf g L D w) (hj : j < L) : Buf g L (D.set j e) (w.setCell ⟨g, j, none⟩ (.int .u64 ((e : Nat) : Int))) := by
  have hl := h.len
  refine ⟨by simpa using h.len, by simpa using h.size, fun i hi => ?_, fun i => by rw [World.frozen?_setCell]; exact h.thawed i⟩
  rw [dg_set (by omega)]
  by_cases hji : j = i
  · subst hji
    rw [if_pos rfl]
    exact World.cell?_setCell_same _ _ _ (h.cell j hj)
  · rw [if_neg hji, World.cell?_setCell_other _ _ _ _ (by intro he; injection he with he1 he2; exact hji he2)]
    exact h.cell i hi
theorem Buf.holds {g L : Nat} {D : List Nat} {w : World} (h : Buf g L D w) (hL : L ≤ 1000000) : Holds w (.slice (some ⟨g, 0, none⟩) L L) D := by
  obtain ⟨rfl, h2, h3, _⟩ := h
  exact Or.inr ⟨g, _, rfl, h2, Nat.le_refl _, hL, h3⟩
theorem made_cells (L i : Nat) (h : i < L) : (madeCells #[.int .u64 0] L)[i]? = some (.int .u64 0) := by
  have := toList_madeCells_one (.int .u64 0) L
  rw [← Array.getElem?_toList, this]
  simp [h]
theorem Buf.made (w : World) (L : Nat) : Buf w.heap.size L (List.replicate L 0) (w.alloc (.cells (madeCells #[.int .u64 0] L) 22)) := by
  refine ⟨by simp, by simp, fun j hj => ?_, fun j => by simp [go_sem]⟩
  rw [World.cell?_alloc_new, made_cells L j hj]
  simp [dg, hj]
theorem Buf.drewN {g L : Nat} {D : List Nat} {w : World} (h : Buf g L D w) (k : Nat) : Buf g L D (w.drewN k) := by
  have hb : Below w.heap.size w (w.drewN k) := below_drewN (Below.refl _ _) k
  exact ⟨h.len, Nat.lt_of_lt_of_le h.size hb.size, fun j hj => by rw [hb.cell (p := ⟨g, j, none⟩) h.size]; exact h.cell j hj, fun j => by rw [hb.frozen (p := ⟨g, j, none⟩) h.size]; exact h.thawed j⟩

end Go.Proofs.YtpbgpdmffejdgabGreatDoor.W
