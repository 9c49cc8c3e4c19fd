/- CloseW, Float, PackB, Whole, Narrow, SumB, SumC, SumD, CmpA, CmpB, OrdF, WhM, ChM, Number. -/
import Derived.Test.YtmbkpmcmhmldgaaT01
import Derived.Test.YtmbkpmcmhmldgaaT07
import Derived.Test.YtmbkpmcmhmldgaaT08
import Derived.Test.YtmbkpmcmhmldgaaT16
import Derived.Test.YtmbkpmcmhmldgaaT19
import Derived.Test.YtmbkpmcmhmldgaaT23
import Derived.Test.YtmbkpmcmhmldgaaT24
import Derived.Test.YtmbkpmcmhmldgaaT25
import Derived.Shelf.Spec.BitsCarry
import Derived.Handy
import Derived.Laws.BitsAllLaws
import Derived.ProofKit
import Derived.Lib.SmallJoins
namespace Go.Proofs.Ytmbkpmcmhmldgaa
open Go.RowKit

theorem dt {p : Prop} [Decidable p] (h : p) : decide p = true := by simp [h]
theorem df {p : Prop} [Decidable p] (h : ¬ p) : decide p = false := by simp [h]

end Go.Proofs.Ytmbkpmcmhmldgaa
namespace Go.Proofs.Ytmbkpmcmhmldgaa
open Go.RowKit

/-- A block of nine values. -/
def At9 (b : Nat) (x0 x1 x2 x3 x4 x5 x6 x7 x8 : Value) (w : World) : Prop :=
  w.cell? ⟨b, 0, none⟩ = some x0 ∧ w.cell? ⟨b, 1, none⟩ = some x1 ∧ w.cell? ⟨b, 2, none⟩ = some x2 ∧ w.cell? ⟨b, 3, none⟩ = some x3 ∧ w.cell? ⟨b, 4, none⟩ = some x4 ∧
  w.cell? ⟨b, 5, none⟩ = some x5 ∧ w.cell? ⟨b, 6, none⟩ = some x6 ∧ w.cell? ⟨b, 7, none⟩ = some x7 ∧ w.cell? ⟨b, 8, none⟩ = some x8
theorem At9.below {b : Nat} {x0 x1 x2 x3 x4 x5 x6 x7 x8 : Value} {w w' : World} (h : At9 b x0 x1 x2 x3 x4 x5 x6 x7 x8 w) (hb : Below w.heap.size w w') : At9 b x0 x1 x2 x3 x4 x5 x6 x7 x8 w' :=
  have hz := lt_of_cell h.1
  ⟨keep1 hb hz h.1, keep1 hb hz h.2.1, keep1 hb hz h.2.2.1, keep1 hb hz h.2.2.2.1, keep1 hb hz h.2.2.2.2.1, keep1 hb hz h.2.2.2.2.2.1, keep1 hb hz h.2.2.2.2.2.2.1, keep1 hb hz h.2.2.2.2.2.2.2.1, keep1 hb hz h.2.2.2.2.2.2.2.2⟩
end Go.Proofs.Ytmbkpmcmhmldgaa
namespace Go.Proofs.Ytmbkpmcmhmldgaa
open Go.RowKit
open Go.Proofs.Ytmbkpmcmhmldgaa.W

/-- An exponent, brought near. -/
def cap (X : Int) : Int := if X < -4096 then -4096 else if 4096 < X then 4096 else X
/-- The least floats' last bit, 5000 bits up. -/
def lowN (f b : Int) : Nat := (5001 - b - f).toNat
/-- A code, no more than the infinite one's. -/
def lid (P Q c : Int) : Int := if (Q - 1) * P ≤ c then (Q - 1) * P else c
/-- The float of a code and a sign. -/
def fl (f P Q : Int) (n : Bool) (c : Int) : Int := put f P Q n (c / P) (c % P)
theorem Kd.pow {w e f P Q b : Int} (k : Kd w e f P Q b) : P = ((2 ^ f.toNat : Nat) : Int) ∧ 0 ≤ f ∧ f ≤ 52 ∧ -1074 ≤ 1 - b - f ∧ 1 - b - f ≤ 0 ∧ 127 ≤ b ∧ b ≤ 1023 := by
  rcases k with ⟨_, _, rfl, rfl, _, rfl⟩ | ⟨_, _, rfl, rfl, _, rfl⟩ <;> exact ⟨rfl, by omega, by omega, by omega, by omega, by omega, by omega⟩

end Go.Proofs.Ytmbkpmcmhmldgaa
namespace Go.Proofs.Ytmbkpmcmhmldgaa
open Go.RowKit
open Go.Proofs.Ytmbkpmcmhmldgaa.W

theorem kd_32 : Kd 32 8 23 8388608 256 127 := Or.inl ⟨rfl, rfl, rfl, rfl, rfl, rfl⟩
theorem kd_64 : Kd 64 11 52 4503599627370496 2048 1023 := Or.inr ⟨rfl, rfl, rfl, rfl, rfl, rfl⟩
end Go.Proofs.Ytmbkpmcmhmldgaa
namespace Go.Proofs.Ytmbkpmcmhmldgaa
open Go.RowKit
open Go.Proofs.Ytmbkpmcmhmldgaa.W

theorem small_w2 {x : Int} (x0 : 0 ≤ x) (x1 : x < 18446744073709551616) : W2 x.toNat := by unfold W2; omega
end Go.Proofs.Ytmbkpmcmhmldgaa
namespace Go.Proofs.Ytmbkpmcmhmldgaa
open Go.RowKit
open Go.Proofs.Ytmbkpmcmhmldgaa.W

/-- The number of a float's parts, 5000 bits up. -/
def mag (X S : Int) : Nat := S.toNat * 2 ^ (X + 5000).toNat
/-- The float that is nearest to a number. -/
def rd (f P Q b : Int) (n : Bool) (M : Nat) : Int := fl f P Q n (lid P Q (code f.toNat (lowN f b) M : Nat))
/-- The sum of two floats that are taken apart. -/
def addP (f P Q b : Int) (n1 : Bool) (K1 : Int) (M1 : Nat) (n2 : Bool) (K2 : Int) (M2 : Nat) : Int :=
  if K1 = 3 ∨ K2 = 3 ∨ (K1 = 2 ∧ K2 = 2 ∧ n1 ≠ n2) then put f P Q false (Q - 1) (P / 2)
  else if K1 = 2 then put f P Q n1 (Q - 1) 0
  else if K2 = 2 then put f P Q n2 (Q - 1) 0
  else if n1 = n2 then rd f P Q b n1 (M1 + M2)
  else if M1 = M2 then put f P Q false 0 0
  else if M1 < M2 then rd f P Q b n2 (M2 - M1)
  else rd f P Q b n1 (M1 - M2)
/-- What parts of a float there are. -/
def Prt (f P Q b K X S : Int) : Prop :=
  (K = 3 ∧ X = 0 ∧ S = 0) ∨ (K = 2 ∧ X = 0 ∧ S = 0) ∨ (K = 0 ∧ X = 0 ∧ S = 0) ∨
  (K = 1 ∧ 1 - b - f ≤ X ∧ X ≤ Q - 2 - b - f ∧ 0 < S ∧ S < 2 * P ∧ (1 - b - f < X → P ≤ S))

theorem opened_prt {w e f P Q b x y X S K : Int} {n N : Bool} (k : Kd w e f P Q b) (ho : Opened f P Q b n x y N K X S) (x0 : 0 ≤ x) (x1 : x < Q) (y0 : 0 ≤ y) (y1 : y < P) : Prt f P Q b K X S := by
  have hf := k.f0
  unfold Prt
  rcases ho with ⟨h, _⟩ | ⟨_, _, _, _, rfl, rfl, rfl⟩ | ⟨_, _, _, _, rfl, rfl, rfl⟩ | ⟨_, h1, h2, _, rfl, rfl, rfl⟩ | ⟨_, h1, h2, h3, _, rfl, rfl, rfl⟩ | ⟨_, h1, h2, h3, _, rfl, rfl, rfl⟩
  · exact absurd h hf
  · exact Or.inl ⟨rfl, rfl, rfl⟩
  · exact Or.inr (Or.inl ⟨rfl, rfl, rfl⟩)
  · refine Or.inr (Or.inr (Or.inr ⟨rfl, by omega, by omega, by omega, by omega, fun _ => by omega⟩))
  · have : 2 ≤ Q ∧ 1 ≤ P := by rcases k with k | k <;> omega
    refine Or.inr (Or.inr (Or.inr ⟨rfl, by omega, ?_, by omega, by omega, fun h => by omega⟩))
    rcases k with k | k <;> omega
  · exact Or.inr (Or.inr (Or.inl ⟨rfl, rfl, rfl⟩))

theorem Prt.in {w e f P Q b K X S : Int} (k : Kd w e f P Q b) (h : Prt f P Q b K X S) : -1200 ≤ X ∧ X ≤ 1100 ∧ 0 ≤ S ∧ S < 2 * P ∧ S < 9007199254740992 := by
  unfold Prt at h
  rcases k with ⟨-, -, rfl, rfl, rfl, rfl⟩ | ⟨-, -, rfl, rfl, rfl, rfl⟩ <;> omega
theorem Prt.mag0 {f P Q b K X S : Int} (h : Prt f P Q b K X S) (hK : K ≠ 1) : mag X S = 0 := by
  have : S = 0 := by
    unfold Prt at h
    omega
  subst this
  exact Nat.zero_mul _
theorem add_comm {f P Q b : Int} (n1 n2 : Bool) (K1 K2 : Int) (M1 M2 : Nat) : addP f P Q b n1 K1 M1 n2 K2 M2 = addP f P Q b n2 K2 M2 n1 K1 M1 := by
  unfold addP
  by_cases h3 : K1 = 3 ∨ K2 = 3 ∨ (K1 = 2 ∧ K2 = 2 ∧ n1 ≠ n2)
  · rw [if_pos h3, if_pos (by
      rcases h3 with h | h | ⟨h1, h2, h⟩
      · exact Or.inr (Or.inl h)
      · exact Or.inl h
      · exact Or.inr (Or.inr ⟨h2, h1, fun he => h he.symm⟩))]
  · have h3' : ¬ (K2 = 3 ∨ K1 = 3 ∨ (K2 = 2 ∧ K1 = 2 ∧ n2 ≠ n1)) := fun h => h3 (by
      rcases h with h | h | ⟨h1, h2, h⟩
      · exact Or.inr (Or.inl h)
      · exact Or.inl h
      · exact Or.inr (Or.inr ⟨h2, h1, fun he => h he.symm⟩))
    rw [if_neg h3, if_neg h3']
    by_cases ka : K1 = 2
    · rw [if_pos ka]
      by_cases kb : K2 = 2
      · rw [if_pos kb]
        have : n1 = n2 := Decidable.byContradiction fun hn => h3 (Or.inr (Or.inr ⟨ka, kb, hn⟩))
        rw [this]
      · rw [if_neg kb, if_pos ka]
    · rw [if_neg ka]
      by_cases kb : K2 = 2
      · rw [if_pos kb, if_pos kb]
      · rw [if_neg kb, if_neg kb, if_neg ka]
        by_cases hn : n1 = n2
        · subst hn
          rw [if_pos rfl, if_pos rfl, Nat.add_comm]
        · rw [if_neg hn, if_neg (fun h : n2 = n1 => hn h.symm)]
          by_cases hM : M1 = M2
          · rw [if_pos hM, if_pos hM.symm]
          · rw [if_neg hM, if_neg (fun h : M2 = M1 => hM h.symm)]
            by_cases hl : M1 < M2
            · rw [if_pos hl, if_neg (by omega)]
            · rw [if_neg hl, if_pos (by omega)]

end Go.Proofs.Ytmbkpmcmhmldgaa
namespace Go.Proofs.Ytmbkpmcmhmldgaa
open Go.RowKit
open Go.Proofs.Ytmbkpmcmhmldgaa.W

/-- A float's bits without the sign, as a number. -/
def oc (P Q x : Int) : Nat := (x / P % Q * P + x % P).toNat
/-- Its kind. -/
def oK (P Q x : Int) : Int := if x / P % Q = Q - 1 then (if x % P = 0 then 2 else 3) else if x / P % Q = 0 ∧ x % P = 0 then 0 else 1
/-- Its sign. -/
def oN (P Q x : Int) : Bool := if x / P % Q = Q - 1 ∧ x % P ≠ 0 then false else sg P Q x
/-- Its number, 5000 bits up. -/
def oM (f P Q b x : Int) : Nat := if x / P % Q = Q - 1 then 0 else fval f.toNat (lowN f b) (oc P Q x)
/-- The difference of two floats. -/
def subB (f P Q b x y : Int) : Int := addP f P Q b (oN P Q x) (oK P Q x) (oM f P Q b x) (!oN P Q y) (oK P Q y) (oM f P Q b y)

theorem mag_zero (X : Int) : mag X 0 = 0 := by
  unfold mag
  rw [show (0 : Int).toNat = 0 from rfl, Nat.zero_mul]
theorem open_kd {w e f P Q b : Int} (k : Kd w e f P Q b) (x : Int) : ∃ X S, Opened f P Q b (sg P Q x) (x / P % Q) (x % P) (oN P Q x) (oK P Q x) X S ∧ Prt f P Q b (oK P Q x) X S ∧ mag X S = oM f P Q b x := by
  obtain ⟨p1, p2, q1, q2⟩ := k.pos
  obtain ⟨hP, f0, f1, l0, l1, b0, b1⟩ := k.pow
  obtain ⟨u, v⟩ := exp_in (x / P) (show 1 ≤ Q by omega)
  obtain ⟨u', v'⟩ := exp_in x (show 1 ≤ P by omega)
  have hf := k.f0
  unfold oM oN oK oc
  generalize x / P % Q = e at *
  generalize x % P = y at *
  generalize sg P Q x = n at *
  by_cases h1 : e = Q - 1
  · rw [if_pos h1, if_pos h1]
    by_cases h2 : y = 0
    · rw [if_pos h2, if_neg (by omega)]
      exact ⟨0, 0, Or.inr (Or.inr (Or.inl ⟨hf, h1, h2, rfl, rfl, rfl, rfl⟩)), Or.inr (Or.inl ⟨rfl, rfl, rfl⟩), mag_zero 0⟩
    · rw [if_neg h2, if_pos ⟨h1, h2⟩]
      exact ⟨0, 0, Or.inr (Or.inl ⟨hf, h1, h2, rfl, rfl, rfl, rfl⟩), Or.inl ⟨rfl, rfl, rfl⟩, mag_zero 0⟩
  · rw [if_neg h1, if_neg h1, if_neg (fun h => h1 h.1)]
    by_cases h2 : e = 0
    · by_cases h3 : y = 0
      · rw [if_pos ⟨h2, h3⟩]
        refine ⟨0, 0, Or.inr (Or.inr (Or.inr (Or.inr (Or.inr ⟨hf, h1, h2, h3, rfl, rfl, rfl, rfl⟩)))), Or.inr (Or.inr (Or.inl ⟨rfl, rfl, rfl⟩)), ?_⟩
        rw [h2, h3, Int.zero_mul, mag_zero, show ((0 : Int) + 0).toNat = 0 from rfl, fval_zero]
      · rw [if_neg (fun h => h3 h.2)]
        have ho : Opened f P Q b n e y n 1 (1 - b - f) y := Or.inr (Or.inr (Or.inr (Or.inr (Or.inl ⟨hf, h1, h2, h3, rfl, rfl, rfl, rfl⟩))))
        refine ⟨1 - b - f, y, ho, opened_prt k ho u v u' v', ?_⟩
        have hv := fval_norm f.toNat (lowN f b) y.toNat (lowN f b) (by rw [Nat.pow_succ]; omega) (Nat.le_refl _) (fun h => absurd h (Nat.lt_irrefl _))
        rw [Nat.sub_self, Nat.zero_mul, Nat.zero_add] at hv
        rw [h2, Int.zero_mul, Int.zero_add, hv]
        unfold mag
        rw [show (1 - b - f + 5000).toNat = lowN f b by unfold lowN; omega]
    · rw [if_neg (fun h => h2 h.1)]
      have ho : Opened f P Q b n e y n 1 (e - b - f) (P + y) := Or.inr (Or.inr (Or.inr (Or.inl ⟨hf, h1, h2, rfl, rfl, rfl, rfl⟩)))
      refine ⟨e - b - f, P + y, ho, opened_prt k ho u v u' v', ?_⟩
      have hk : (e - b - f + 5000).toNat = lowN f b + (e.toNat - 1) := by unfold lowN; omega
      have hv := fval_norm f.toNat (lowN f b) (P + y).toNat (lowN f b + (e.toNat - 1)) (by rw [Nat.pow_succ]; omega) (by omega) (fun _ => by omega)
      unfold mag
      rw [hk, ← hv]
      congr 1
      rw [show lowN f b + (e.toNat - 1) - lowN f b = e.toNat - 1 by omega]
      have e1 : (e * P + y).toNat = e.toNat * 2 ^ f.toNat + y.toNat := by
        have : ((e.toNat * 2 ^ f.toNat : Nat) : Int) = e * P := by
          rw [Int.natCast_mul, ← hP, Int.toNat_of_nonneg u]
        omega
      have e2 : (P + y).toNat = 2 ^ f.toNat + y.toNat := by omega
      rw [e1, e2, ← Nat.add_assoc]
      congr 1
      obtain ⟨j, hj⟩ : ∃ j, e.toNat = j + 1 := ⟨e.toNat - 1, by omega⟩
      rw [hj, Nat.add_sub_cancel, Nat.add_mul, Nat.one_mul]

theorem open_none {w e f P Q b : Int} (k : Wd w e f P Q b) (hf : f = 0) (x : Int) (W : World) (x0 : 0 ≤ x) (x1 : x < 18446744073709551616) :
    Calls Try.prog 26 #[.int .i64 w, .int .u64 x] W fun r W' => r = .returned (.agg #[.bool false, .int .i64 0, .int .i64 0, .int .u64 0]) ∧ Below W.heap.size W W' :=
  open_any x k W x0 x1 (Or.inl ⟨hf, rfl, rfl, rfl, rfl⟩)
end Go.Proofs.Ytmbkpmcmhmldgaa
namespace Go.Proofs.Ytmbkpmcmhmldgaa
open Go.RowKit
open Go.Proofs.Ytmbkpmcmhmldgaa.W

/-- The canonical NaN. -/
def nanB (f P Q : Int) : Int := put f P Q false (Q - 1) (P / 2)

/-- A float less itself. -/
theorem sub_self {w e f P Q b : Int} (k : Kd w e f P Q b) {x : Int} : (oK P Q x = 2 → subB f P Q b x x = nanB f P Q) ∧ (oK P Q x ≠ 2 → oK P Q x ≠ 3 → subB f P Q b x x = 0) := by
  unfold subB addP
  refine ⟨fun h => ?_, fun h h3 => ?_⟩
  · rw [if_pos (Or.inr (Or.inr ⟨h, h, by cases oN P Q x <;> simp⟩))]
    rfl
  · rw [if_neg (by omega), if_neg h, if_neg h, if_neg (by cases oN P Q x <;> simp), if_pos rfl, put_no k.f0]
    omega
end Go.Proofs.Ytmbkpmcmhmldgaa
namespace Go.Proofs.Ytmbkpmcmhmldgaa
open Go.RowKit
open Go.Proofs.Ytmbkpmcmhmldgaa.W

set_option maxRecDepth 100000 in
set_option maxHeartbeats 2000000 in
theorem cmp_lt {w x y K1 X1 S1 K2 X2 S2 s1 s2 : Int} {n1 n2 : Bool} (W : World) (HO1 : Ct 17 #[.int .i64 w, .int .u64 x] (.agg #[.bool n1, .int .i64 K1, .int .i64 X1, .int .u64 S1])) (HO2 : Ct 17 #[.int .i64 w, .int .u64 y] (.agg #[.bool n2, .int .i64 K2, .int .i64 X2, .int .u64 S2])) (a3 : (K1 == 3) = false) (b3 : (K2 == 3) = false) (HS1 : Ct 23 #[.agg #[.bool n1, .int .i64 K1, .int .i64 X1, .int .u64 S1]] (.int .i64 s1)) (HS2 : Ct 23 #[.agg #[.bool n2, .int .i64 K2, .int .i64 X2, .int .u64 S2]] (.int .i64 s2)) (h1 : s1 < s2) :
    Calls Try.prog 13 #[.int .i64 w, .int .u64 x, .int .u64 y] W fun r W' => r = .returned (.int .i64 (-1)) ∧ Below W.heap.size W W' := by
  go_enter Try.func13, Try.ntmps13
  go_wp2_with fail
  refine (unhide HO1 _).mono ?_
  rintro _ w1 ⟨rfl, hb⟩
  have HB := hide (balloc hb (.cells #[.bool n1, .int .i64 K1, .int .i64 X1, .int .u64 S1] 44))
  have HA := hide (at4_new w1 (.bool n1) (.int .i64 K1) (.int .i64 X1) (.int .u64 S1) 44)
  clear hb
  go_wp2_with fail
  refine (unhide HO2 _).mono ?_
  rintro _ w2 ⟨rfl, hb⟩
  have HB := hide (balloc (bthen (unhide HB) hb) (.cells #[.bool n2, .int .i64 K2, .int .i64 X2, .int .u64 S2] 44))
  have HA := hide (((unhide HA).below hb).below (below1 w2 (.cells #[.bool n2, .int .i64 K2, .int .i64 X2, .int .u64 S2] 44)))
  have H1 := hide (at4_new w2 (.bool n2) (.int .i64 K2) (.int .i64 X2) (.int .u64 S2) 44)
  clear hb
  obtain ⟨c0, c1, c2, c3⟩ := unhide HA
  obtain ⟨d0, d1, d2, d3⟩ := unhide H1
  go_wp2_with fail
  clear c0 c1 c2 c3 d0 d1 d2 d3
  have HB := hide (unhide HB).drew
  have HA := hide ((unhide HA).below ((Below.refl _ _).drew))
  have H1 := hide ((unhide H1).below ((Below.refl _ _).drew))
  refine wp_region_held_drew (S := fun w' => (w'.cell? ⟨w1.heap.size, 0, none⟩ = some (.bool n1) ∧ w'.cell? ⟨w1.heap.size, 1, none⟩ = some (.int .i64 K1) ∧ w'.cell? ⟨w1.heap.size, 2, none⟩ = some (.int .i64 X1) ∧ w'.cell? ⟨w1.heap.size, 3, none⟩ = some (.int .u64 S1)) ∧ (w'.cell? ⟨w2.heap.size, 0, none⟩ = some (.bool n2) ∧ w'.cell? ⟨w2.heap.size, 1, none⟩ = some (.int .i64 K2) ∧ w'.cell? ⟨w2.heap.size, 2, none⟩ = some (.int .i64 X2) ∧ w'.cell? ⟨w2.heap.size, 3, none⟩ = some (.int .u64 S2))) (by kernel_rfl) ?_ (fun hHeld => ?_)
  · (try dsimp only)
    exact ⟨unhide HA, unhide H1⟩
  refine lst0 5 (by kernel_rfl) ?_
  refine tkA 0 25 1 ?_
  refine tkA 2 27 5 ?_
  refine rdA 1 7 (fun Kk hKk => ?_)
  go_simp
  refine (unhide HS1 _).mono ?_
  rintro _ w3 ⟨rfl, hb⟩
  have HB := hide (bthen (unhide HB) hb)
  have HA := hide ((unhide HA).below hb)
  have H1 := hide ((unhide H1).below hb)
  clear hb
  (try go_wp2_with fail)
  refine hKk.out _ _ ?_ (fun hHeld => ?_)
  · (try dsimp only)
    exact ⟨unhide HA, unhide H1⟩
  clear hKk Kk
  (try simp only [List.setIfInBounds_toArray, List.set_cons_zero, List.set_cons_succ])
  refine rdA 3 15 (fun Kk hKk => ?_)
  go_simp
  refine (unhide HS2 _).mono ?_
  rintro _ w4 ⟨rfl, hb⟩
  have HB := hide (bthen (unhide HB) hb)
  have HA := hide ((unhide HA).below hb)
  have H1 := hide ((unhide H1).below hb)
  clear hb
  (try go_wp2_with fail)
  refine hKk.out _ _ ?_ (fun hHeld => ?_)
  · (try dsimp only)
    exact ⟨unhide HA, unhide H1⟩
  clear hKk Kk
  (try simp only [List.setIfInBounds_toArray, List.set_cons_zero, List.set_cons_succ])
  refine tkA 4 29 31 ?_
  refine wpAnyH_done (by kernel_rfl) ?_ _
  clear hHeld
  obtain ⟨c0, c1, c2, c3⟩ := unhide HA
  obtain ⟨d0, d1, d2, d3⟩ := unhide H1
  go_wp2_with fail
  go_ret
  exact ⟨rfl, unhide HB⟩

end Go.Proofs.Ytmbkpmcmhmldgaa
namespace Go.Proofs.Ytmbkpmcmhmldgaa
open Go.RowKit
open Go.Proofs.Ytmbkpmcmhmldgaa.W

set_option maxRecDepth 100000 in
set_option maxHeartbeats 2000000 in
theorem cmp_gt {w x y K1 X1 S1 K2 X2 S2 s1 s2 : Int} {n1 n2 : Bool} (W : World) (HO1 : Ct 17 #[.int .i64 w, .int .u64 x] (.agg #[.bool n1, .int .i64 K1, .int .i64 X1, .int .u64 S1])) (HO2 : Ct 17 #[.int .i64 w, .int .u64 y] (.agg #[.bool n2, .int .i64 K2, .int .i64 X2, .int .u64 S2])) (a3 : (K1 == 3) = false) (b3 : (K2 == 3) = false) (HS1 : Ct 23 #[.agg #[.bool n1, .int .i64 K1, .int .i64 X1, .int .u64 S1]] (.int .i64 s1)) (HS2 : Ct 23 #[.agg #[.bool n2, .int .i64 K2, .int .i64 X2, .int .u64 S2]] (.int .i64 s2)) (h2 : s2 < s1) :
    Calls Try.prog 13 #[.int .i64 w, .int .u64 x, .int .u64 y] W fun r W' => r = .returned (.int .i64 1) ∧ Below W.heap.size W W' := by
  go_enter Try.func13, Try.ntmps13
  go_wp2_with fail
  refine (unhide HO1 _).mono ?_
  rintro _ w1 ⟨rfl, hb⟩
  have HB := hide (balloc hb (.cells #[.bool n1, .int .i64 K1, .int .i64 X1, .int .u64 S1] 44))
  have HA := hide (at4_new w1 (.bool n1) (.int .i64 K1) (.int .i64 X1) (.int .u64 S1) 44)
  clear hb
  go_wp2_with fail
  refine (unhide HO2 _).mono ?_
  rintro _ w2 ⟨rfl, hb⟩
  have HB := hide (balloc (bthen (unhide HB) hb) (.cells #[.bool n2, .int .i64 K2, .int .i64 X2, .int .u64 S2] 44))
  have HA := hide (((unhide HA).below hb).below (below1 w2 (.cells #[.bool n2, .int .i64 K2, .int .i64 X2, .int .u64 S2] 44)))
  have H1 := hide (at4_new w2 (.bool n2) (.int .i64 K2) (.int .i64 X2) (.int .u64 S2) 44)
  clear hb
  obtain ⟨c0, c1, c2, c3⟩ := unhide HA
  obtain ⟨d0, d1, d2, d3⟩ := unhide H1
  go_wp2_with fail
  clear c0 c1 c2 c3 d0 d1 d2 d3
  have HB := hide (unhide HB).drew
  have HA := hide ((unhide HA).below ((Below.refl _ _).drew))
  have H1 := hide ((unhide H1).below ((Below.refl _ _).drew))
  refine wp_region_held_drew (S := fun w' => (w'.cell? ⟨w1.heap.size, 0, none⟩ = some (.bool n1) ∧ w'.cell? ⟨w1.heap.size, 1, none⟩ = some (.int .i64 K1) ∧ w'.cell? ⟨w1.heap.size, 2, none⟩ = some (.int .i64 X1) ∧ w'.cell? ⟨w1.heap.size, 3, none⟩ = some (.int .u64 S1)) ∧ (w'.cell? ⟨w2.heap.size, 0, none⟩ = some (.bool n2) ∧ w'.cell? ⟨w2.heap.size, 1, none⟩ = some (.int .i64 K2) ∧ w'.cell? ⟨w2.heap.size, 2, none⟩ = some (.int .i64 X2) ∧ w'.cell? ⟨w2.heap.size, 3, none⟩ = some (.int .u64 S2))) (by kernel_rfl) ?_ (fun hHeld => ?_)
  · (try dsimp only)
    exact ⟨unhide HA, unhide H1⟩
  refine lst0 5 (by kernel_rfl) ?_
  refine tkA 0 25 1 ?_
  refine tkA 2 27 5 ?_
  refine rdA 1 7 (fun Kk hKk => ?_)
  go_simp
  refine (unhide HS1 _).mono ?_
  rintro _ w3 ⟨rfl, hb⟩
  have HB := hide (bthen (unhide HB) hb)
  have HA := hide ((unhide HA).below hb)
  have H1 := hide ((unhide H1).below hb)
  clear hb
  (try go_wp2_with fail)
  refine hKk.out _ _ ?_ (fun hHeld => ?_)
  · (try dsimp only)
    exact ⟨unhide HA, unhide H1⟩
  clear hKk Kk
  (try simp only [List.setIfInBounds_toArray, List.set_cons_zero, List.set_cons_succ])
  refine rdA 3 15 (fun Kk hKk => ?_)
  go_simp
  refine (unhide HS2 _).mono ?_
  rintro _ w4 ⟨rfl, hb⟩
  have HB := hide (bthen (unhide HB) hb)
  have HA := hide ((unhide HA).below hb)
  have H1 := hide ((unhide H1).below hb)
  clear hb
  (try go_wp2_with fail)
  refine hKk.out _ _ ?_ (fun hHeld => ?_)
  · (try dsimp only)
    exact ⟨unhide HA, unhide H1⟩
  clear hKk Kk
  (try simp only [List.setIfInBounds_toArray, List.set_cons_zero, List.set_cons_succ])
  refine tkA 4 29 31 ?_
  refine wpAnyH_done (by kernel_rfl) ?_ _
  clear hHeld
  obtain ⟨c0, c1, c2, c3⟩ := unhide HA
  obtain ⟨d0, d1, d2, d3⟩ := unhide H1
  go_wp2_with fail
  clear c0 c1 c2 c3 d0 d1 d2 d3
  have HB := hide (unhide HB).drew
  have HA := hide ((unhide HA).below ((Below.refl _ _).drew))
  have H1 := hide ((unhide H1).below ((Below.refl _ _).drew))
  refine wp_region_held_drew (S := fun w' => (w'.cell? ⟨w1.heap.size, 0, none⟩ = some (.bool n1) ∧ w'.cell? ⟨w1.heap.size, 1, none⟩ = some (.int .i64 K1) ∧ w'.cell? ⟨w1.heap.size, 2, none⟩ = some (.int .i64 X1) ∧ w'.cell? ⟨w1.heap.size, 3, none⟩ = some (.int .u64 S1)) ∧ (w'.cell? ⟨w2.heap.size, 0, none⟩ = some (.bool n2) ∧ w'.cell? ⟨w2.heap.size, 1, none⟩ = some (.int .i64 K2) ∧ w'.cell? ⟨w2.heap.size, 2, none⟩ = some (.int .i64 X2) ∧ w'.cell? ⟨w2.heap.size, 3, none⟩ = some (.int .u64 S2))) (by kernel_rfl) ?_ (fun hHeld => ?_)
  · (try dsimp only)
    exact ⟨unhide HA, unhide H1⟩
  refine lst0 5 (by kernel_rfl) ?_
  refine tkA 0 30 1 ?_
  refine tkA 2 32 5 ?_
  refine rdA 1 7 (fun Kk hKk => ?_)
  go_simp
  refine (unhide HS1 _).mono ?_
  rintro _ w5 ⟨rfl, hb⟩
  have HB := hide (bthen (unhide HB) hb)
  have HA := hide ((unhide HA).below hb)
  have H1 := hide ((unhide H1).below hb)
  clear hb
  (try go_wp2_with fail)
  refine hKk.out _ _ ?_ (fun hHeld => ?_)
  · (try dsimp only)
    exact ⟨unhide HA, unhide H1⟩
  clear hKk Kk
  (try simp only [List.setIfInBounds_toArray, List.set_cons_zero, List.set_cons_succ])
  refine rdA 3 15 (fun Kk hKk => ?_)
  go_simp
  refine (unhide HS2 _).mono ?_
  rintro _ w6 ⟨rfl, hb⟩
  have HB := hide (bthen (unhide HB) hb)
  have HA := hide ((unhide HA).below hb)
  have H1 := hide ((unhide H1).below hb)
  clear hb
  (try go_wp2_with fail)
  refine hKk.out _ _ ?_ (fun hHeld => ?_)
  · (try dsimp only)
    exact ⟨unhide HA, unhide H1⟩
  clear hKk Kk
  (try simp only [List.setIfInBounds_toArray, List.set_cons_zero, List.set_cons_succ])
  refine tkA 4 34 31 ?_
  refine wpAnyH_done (by kernel_rfl) ?_ _
  clear hHeld
  obtain ⟨c0, c1, c2, c3⟩ := unhide HA
  obtain ⟨d0, d1, d2, d3⟩ := unhide H1
  go_wp2_with fail
  go_ret
  exact ⟨rfl, unhide HB⟩
end Go.Proofs.Ytmbkpmcmhmldgaa
namespace Go.Proofs.Ytmbkpmcmhmldgaa
open Go.RowKit
open Go.Proofs.Ytmbkpmcmhmldgaa.W

theorem cmp_scale (x y t : Nat) : cmpN (x * 2 ^ t) (y * 2 ^ t) = cmpN x y := by
  have h := Nat.two_pow_pos t
  unfold cmpN
  simp only [Nat.mul_lt_mul_right h]
end Go.Proofs.Ytmbkpmcmhmldgaa
namespace Go.Proofs.Ytmbkpmcmhmldgaa
open Go.RowKit
open Go.Proofs.Ytmbkpmcmhmldgaa.W

/-- How many bits up the numbers lie. -/
def Z5 : Nat := 5000
/-- A number's whole part. -/
def wq (M : Nat) : Nat := M / 2 ^ Z5
/-- What it loses by that. -/
def wr (M : Nat) : Nat := M % 2 ^ Z5
/-- Twice what is lost, held against one. -/
def wh (M : Nat) : Int := cmpN (wr M * 2 ^ 1) (2 ^ Z5)
theorem mag_dn (k : Nat) (hk : k ≤ 5000) {X S : Int} (hX : X = -(k : Int)) : mag X S = S.toNat * 2 ^ (Z5 - k) ∧ 2 ^ Z5 = 2 ^ k * 2 ^ (Z5 - k) := by
  constructor
  · unfold mag
    rw [show (X + 5000).toNat = Z5 - k by unfold Z5; omega]
  · rw [← Nat.pow_add, show k + (Z5 - k) = Z5 by unfold Z5; omega]
theorem low_dn (k : Nat) (hk : k ≤ 5000) {X S : Int} (hX : X = -(k : Int)) : wq (mag X S) = S.toNat / 2 ^ k ∧ wr (mag X S) = S.toNat % 2 ^ k * 2 ^ (Z5 - k) ∧ wh (mag X S) = cmpN (S.toNat % 2 ^ k * 2 ^ 1) (2 ^ k) := by
  obtain ⟨h1, h2⟩ := mag_dn k hk (S := S) hX
  have hp := Nat.two_pow_pos (Z5 - k)
  have hr : wr (mag X S) = S.toNat % 2 ^ k * 2 ^ (Z5 - k) := by
    unfold wr
    rw [h1, h2, Nat.mul_mod_mul_right]
  refine ⟨?_, hr, ?_⟩
  · unfold wq
    rw [h1, h2, Nat.mul_div_mul_right _ _ hp]
  · unfold wh
    rw [hr, h2, Nat.mul_right_comm]
    exact cmp_scale _ _ _
theorem low_dn0 (k : Nat) (hk : k ≤ 5000) {X S : Int} (hX : X = -(k : Int)) : (wr (mag X S) ≠ 0) = (S.toNat % 2 ^ k ≠ 0) := by
  obtain ⟨-, h, -⟩ := low_dn k hk (S := S) hX
  have hp := Nat.two_pow_pos (Z5 - k)
  rw [h]
  refine propext ⟨fun a e => a (by rw [e, Nat.zero_mul]), fun a e => ?_⟩
  rcases Nat.mul_eq_zero.mp e with h | h
  · exact a h
  · omega
theorem low_up {X S : Int} (hX : 0 ≤ X) : wq (mag X S) = S.toNat * 2 ^ X.toNat ∧ wr (mag X S) = 0 ∧ wh (mag X S) = -1 := by
  have hm : mag X S = S.toNat * 2 ^ X.toNat * 2 ^ Z5 := by
    unfold mag
    rw [show (X + 5000).toNat = X.toNat + Z5 by unfold Z5; omega, Nat.pow_add, Nat.mul_assoc]
  have hp := Nat.two_pow_pos Z5
  have hr : wr (mag X S) = 0 := by unfold wr; rw [hm, Nat.mul_mod_left]
  refine ⟨by unfold wq; rw [hm, Nat.mul_div_cancel _ hp], hr, ?_⟩
  unfold wh cmpN
  rw [hr, Nat.zero_mul, if_pos hp]
end Go.Proofs.Ytmbkpmcmhmldgaa
namespace Go.Proofs.Ytmbkpmcmhmldgaa
open Go.RowKit
open Go.Proofs.Ytmbkpmcmhmldgaa.W

/-- What half of a width's room is. -/
theorem kd_half {w e f P Q b : Int} (k : Kd w e f P Q b) : (w = 32 ∧ P * Q = 2147483648) ∨ (w = 64 ∧ P * Q = 9223372036854775808) := by
  rcases k with ⟨rfl, -, -, rfl, rfl, -⟩ | ⟨rfl, -, -, rfl, rfl, -⟩
  · exact Or.inl ⟨rfl, rfl⟩
  · exact Or.inr ⟨rfl, rfl⟩
theorem wq_zero : wq 0 = 0 := by unfold wq; exact Nat.zero_div _
/-- How far a number may go below nought, above it: H is half of what there is room for. -/
def lowE (H : Int) (s : Bool) : Int := if s then H else 0
def highE (H : Int) (s : Bool) : Int := if s then H - 1 else 2 * H - 1
/-- The end on the side of a sign. -/
def endE (H : Int) (s n : Bool) : Int := if n then lowE H s else highE H s
/-- The number of that sign and amount. -/
def sgd (H : Int) (n : Bool) (m : Int) : Int := if n then -m % (2 * H) else m
/-- The trap, and the number, of a float of that sign and kind, whose whole part is z. -/
def chT (H : Int) (s n : Bool) (K : Int) (z : Nat) : Int := if K = 3 then 4 else if K = 2 then 3 else if (z : Int) ≤ endE H s n then 0 else 3
def chV (H : Int) (s n : Bool) (K : Int) (z : Nat) : Int := if K = 3 then 0 else if K = 2 then endE H s n else if (z : Int) ≤ endE H s n then sgd H n z else endE H s n

theorem chT_le {H : Int} {s n : Bool} {z : Nat} (h : (z : Int) ≤ endE H s n) : chT H s n 1 z = 0 := by unfold chT; rw [if_neg (by decide), if_neg (by decide), if_pos h]
theorem chV_le {H : Int} {s n : Bool} {z : Nat} (h : (z : Int) ≤ endE H s n) : chV H s n 1 z = sgd H n z := by unfold chV; rw [if_neg (by decide), if_neg (by decide), if_pos h]
theorem chT_gt {H : Int} {s n : Bool} {z : Nat} (h : ¬ (z : Int) ≤ endE H s n) : chT H s n 1 z = 3 := by unfold chT; rw [if_neg (by decide), if_neg (by decide), if_neg h]
theorem chV_gt {H : Int} {s n : Bool} {z : Nat} (h : ¬ (z : Int) ≤ endE H s n) : chV H s n 1 z = endE H s n := by unfold chV; rw [if_neg (by decide), if_neg (by decide), if_neg h]
theorem ends_in {w e f P Q b : Int} (k : Kd w e f P Q b) (s n : Bool) : 0 ≤ endE (P * Q) s n ∧ endE (P * Q) s n < 18446744073709551616 := by
  have h := kd_half k
  unfold endE lowE highE
  cases n <;> cases s <;> simp only [if_true, if_false, Bool.false_eq_true] <;> omega

/-- What is left of a great amount. -/
theorem am_hi {X S : Int} (h : 64 < X) (s0 : 0 < S) (s1 : S < 9007199254740992) : W2 (shrN (shlN S.toNat 64) (-X)) ∧ ∀ E : Nat, E < 18446744073709551616 → ¬ shrN (shlN S.toNat 64) (-X) ≤ E ∧ ¬ wq (mag X S) ≤ E := by
  have e1 : shlN S.toNat 64 = S.toNat * 18446744073709551616 := by
    unfold shlN
    rw [show (2 : Nat) ^ (64 : Int).toNat = 18446744073709551616 by decide, Nat.mod_eq_of_lt (by omega)]
  have e2 : shrN (shlN S.toNat 64) (-X) = S.toNat * 18446744073709551616 := by
    unfold shrN
    rw [e1, show (-X).toNat = 0 by omega, Nat.pow_zero, Nat.div_one]
  have e3 := (low_up (S := S) (show 0 ≤ X by omega)).1
  obtain ⟨j, hj⟩ : ∃ j, X.toNat = j + 64 := ⟨X.toNat - 64, by omega⟩
  rw [hj, Nat.pow_add, ← Nat.mul_assoc] at e3
  have hp := Nat.le_mul_of_pos_right S.toNat (Nat.two_pow_pos j)
  rw [e2, e3]
  generalize S.toNat * 2 ^ j = y at *
  have hS : 1 ≤ S.toNat := by omega
  exact ⟨by unfold W2; omega, fun E hE => ⟨by omega, by omega⟩⟩
theorem am_lo {X S : Int} (h : ¬ 64 < X) (x0 : -1200 ≤ X) (s0 : 0 ≤ S) (s1 : S < 9007199254740992) : shrN (shlN S.toNat X) (-X) = wq (mag X S) := by
  by_cases hX : 0 ≤ X
  · rw [(low_up (S := S) hX).1]
    have hp : 2 ^ X.toNat ≤ 2 ^ 64 := Nat.pow_le_pow_right (by omega) (by omega)
    have hm := Nat.mul_le_mul (show S.toNat ≤ 9007199254740992 by omega) hp
    unfold shrN shlN
    rw [show (-X).toNat = 0 by omega, Nat.pow_zero, Nat.div_one, Nat.mod_eq_of_lt (by omega)]
  · rw [(low_dn (-X).toNat (by omega) (X := X) (S := S) (by omega)).1]
    unfold shrN shlN
    rw [show X.toNat = 0 by omega, Nat.pow_zero, Nat.mul_one, Nat.mod_eq_of_lt (show S.toNat < 340282366920938463463374607431768211456 by omega)]
theorem neg_id {X : Int} (h0 : -1200 ≤ X) (h1 : X ≤ 1100) : IntKind.i64.wrap (-X) = -X := i64_id (by omega) (by omega)
theorem amount_any {w e f P Q b X S : Int} (k : Kd w e f P Q b) (n : Bool) (h : Prt f P Q b 1 X S) :
    ∃ a : Nat, W2 a ∧ Ct 27 #[.agg #[.bool n, .int .i64 1, .int .i64 X, .int .u64 S]] (.agg #[.int .u64 (hi a), .int .u64 (lo a)]) ∧ ∀ E : Nat, E < 18446744073709551616 → (a ≤ E ∧ a = wq (mag X S) ∨ ¬ a ≤ E ∧ ¬ wq (mag X S) ≤ E) := by
  obtain ⟨x0, x1, s0, -, s2⟩ := h.in k
  have sp : 0 < S := by unfold Prt at h; omega
  have HO := hide (fun W => of_n S W s0 (by omega))
  have hv := small_w2 s0 (show S < 18446744073709551616 by omega)
  by_cases g : 64 < X
  · obtain ⟨h1, h2⟩ := am_hi g sp s2
    refine ⟨_, h1, hide (fun W => amount_hi W HO g (hide (fun W => left_n S.toNat 64 W hv)) (neg_id x0 x1) (hide (fun W => right_n _ (-X) W (shlN_w _ _)))), fun E hE => Or.inr (h2 E hE)⟩
  · have h1 := am_lo g x0 s0 s2
    refine ⟨_, shrN_w (-X) (shlN_w S.toNat X), hide (fun W => amount_lo W HO g (hide (fun W => left_n S.toNat X W hv)) (neg_id x0 x1) (hide (fun W => right_n _ (-X) W (shlN_w _ _)))), fun E hE => ?_⟩
    rw [h1]
    by_cases q : wq (mag X S) ≤ E
    · exact Or.inl ⟨q, rfl⟩
    · exact Or.inr ⟨q, q⟩
theorem kn_any {w e f P Q b : Int} (h : Wd w e f P Q b) : Ct 25 #[.int .i64 w] (.bool (f != 0)) := by
  have hk := fun W => kn_l W (hide (fun W => fields_any h W))
  rw [show (e != 0) = (f != 0) by rcases h with ⟨-, rfl, rfl, -⟩ | ⟨-, rfl, rfl, -⟩ | ⟨-, rfl, rfl, -⟩ <;> decide] at hk
  exact hide hk
theorem cut_kd {w e f P Q b x : Int} (k : Kd w e f P Q b) : cutN f P Q x = x % (2 * (P * Q)) := by unfold cutN; rw [if_neg k.f0]
theorem ends_any {w e f P Q b : Int} (k : Kd w e f P Q b) (s : Bool) : Ct 8 #[.int .i64 w, .bool s] (.tuple #[.int .u64 (lowE (P * Q) s), .int .u64 (highE (P * Q) s)]) := by
  have HC := hide (fun W => cut_any 18446744073709551615 k.wd W (by omega) (by omega))
  rw [cut_kd k] at HC
  have h := kd_half k
  have hm : 18446744073709551615 % (2 * (P * Q)) = 2 * (P * Q) - 1 := by
    rcases h with ⟨-, h⟩ | ⟨-, h⟩ <;> rw [h] <;> decide
  rw [hm] at HC
  generalize P * Q = H at *
  cases s
  · exact hide (fun W => ends_f W HC)
  · exact hide (fun W => ends_t W HC (show (2 * H - 1) / 2 = H - 1 by omega) (by show IntKind.u64.wrap (2 * H - 1 - (H - 1)) = H; rw [show 2 * H - 1 - (H - 1) = H by omega, IntKind.wrap_u64]; exact Int.emod_eq_of_lt (by omega) (by omega)))
theorem ends_no {w e f P Q b : Int} (k : Wd w e f P Q b) (hf : f = 0) (s : Bool) : Ct 8 #[.int .i64 w, .bool s] (.tuple #[.int .u64 0, .int .u64 0]) := by
  have HC := hide (fun W => cut_any 18446744073709551615 k W (by omega) (by omega))
  rw [show cutN f P Q 18446744073709551615 = 0 by unfold cutN; rw [if_pos hf]] at HC
  cases s
  · exact hide (fun W => ends_f W HC)
  · exact hide (fun W => ends_t W HC (by decide) (by decide))
theorem neg_mod {H x : Int} (h : H = 2147483648 ∨ H = 9223372036854775808) : IntKind.u64.wrap (-x) % (2 * H) = -x % (2 * H) := by
  rw [IntKind.wrap_u64]
  rcases h with rfl | rfl <;> omega
theorem wrap_in (x : Int) : 0 ≤ IntKind.u64.wrap x ∧ IntKind.u64.wrap x < 18446744073709551616 := by
  rw [IntKind.wrap_u64]
  omega
theorem with_any {w e f P Q b x : Int} (k : Kd w e f P Q b) (n : Bool) : Ct 30 #[.int .i64 w, .bool n, .int .u64 x] (.int .u64 (sgd (P * Q) n x)) := by
  have h : P * Q = 2147483648 ∨ P * Q = 9223372036854775808 := by have := kd_half k; omega
  cases n
  · exact hide (fun W => with_f W)
  · obtain ⟨h0, h1⟩ := wrap_in (-x)
    have HC := hide (fun W => cut_any (IntKind.u64.wrap (-x)) k.wd W h0 h1)
    rw [cut_kd k, neg_mod h] at HC
    exact hide (fun W => with_t W rfl HC)
/-- The answer of chopped, by a float's parts. -/
theorem chopped_parts {w k e' f' P' Q' b' e f P Q b x X S K : Int} {n : Bool} (kw : Kd w e f P Q b) (kk : Kd k e' f' P' Q' b') (s : Bool) (h : Prt f P Q b K X S) (HO : Ct 26 #[.int .i64 w, .int .u64 x] (.agg #[.bool n, .int .i64 K, .int .i64 X, .int .u64 S])) :
    Ct 14 #[.int .i64 w, .int .i64 k, .int .u64 x, .bool s] (.tuple #[.int .u64 (chV (P' * Q') s n K (wq (mag X S))), .int .i64 (chT (P' * Q') s n K (wq (mag X S)))]) := by
  have HK := kn_any kk.wd
  rw [ne_t kk.f0] at HK
  have HE := ends_any kk s
  obtain ⟨e0, e1⟩ := ends_in kk s n
  have hK : K = 0 ∨ K = 1 ∨ K = 2 ∨ K = 3 := by unfold Prt at h; omega
  rcases hK with rfl | rfl | rfl | rfl
  · rw [h.mag0 (by decide), wq_zero]
    have hT : chT (P' * Q') s n 0 0 = 0 := by unfold chT; rw [if_neg (by decide), if_neg (by decide), if_pos (by omega)]
    have hV : chV (P' * Q') s n 0 0 = 0 := by
      unfold chV
      rw [if_neg (by decide), if_neg (by decide), if_pos (by omega)]
      unfold sgd
      cases n <;> simp
    rw [hT, hV]
    cases n
    · exact hide (fun W => chopped_zero_f W HK HO HE)
    · exact hide (fun W => chopped_zero_t W HK HO HE)
  · obtain ⟨a, w2, HM, ha⟩ := amount_any kw n h
    obtain ⟨E, hE⟩ := Int.eq_ofNat_of_zero_le e0
    have hv := ha E (by omega)
    have HF := hide (fun W => of_n (endE (P' * Q') s n) W e0 e1)
    have HC := hide (fun W => cmp_n a E W)
    have HS := with_any (x := lo a) kk n
    rw [hE, Int.toNat_natCast] at HF
    rcases hv with ⟨g, h1⟩ | ⟨g, h1⟩
    · rw [← h1, chT_le (by omega), chV_le (by omega)]
      have hc : cmpN a E ≤ 0 := by unfold cmpN; split <;> (try split) <;> omega
      have hl : lo a = (a : Int) := by unfold lo; omega
      rw [hl] at HS
      rw [hl] at HM HC
      cases n
      · rw [show endE (P' * Q') s false = highE (P' * Q') s from rfl] at hE
        rw [← hE] at HF
        exact hide (fun W => chopped_le_f W HK HO HE HM HF HC hc HS)
      · rw [show endE (P' * Q') s true = lowE (P' * Q') s from rfl] at hE
        rw [← hE] at HF
        exact hide (fun W => chopped_le_t W HK HO HE HM HF HC hc HS)
    · rw [chT_gt (by omega), chV_gt (by omega)]
      have hc : ¬ cmpN a E ≤ 0 := by unfold cmpN; split <;> (try split) <;> omega
      cases n
      · rw [show endE (P' * Q') s false = highE (P' * Q') s from rfl] at hE ⊢
        rw [← hE] at HF
        exact hide (fun W => chopped_gt_f W HK HO HE HM HF HC hc)
      · rw [show endE (P' * Q') s true = lowE (P' * Q') s from rfl] at hE ⊢
        rw [← hE] at HF
        exact hide (fun W => chopped_gt_t W HK HO HE HM HF HC hc)
  · have hT : chT (P' * Q') s n 2 (wq (mag X S)) = 3 := by unfold chT; rw [if_neg (by decide), if_pos rfl]
    have hV : chV (P' * Q') s n 2 (wq (mag X S)) = endE (P' * Q') s n := by unfold chV; rw [if_neg (by decide), if_pos rfl]
    rw [hT, hV]
    cases n
    · exact hide (fun W => chopped_inf_f W HK HO HE)
    · exact hide (fun W => chopped_inf_t W HK HO HE)
  · have hT : chT (P' * Q') s n 3 (wq (mag X S)) = 4 := by unfold chT; rw [if_pos rfl]
    have hV : chV (P' * Q') s n 3 (wq (mag X S)) = 0 := by unfold chV; rw [if_pos rfl]
    rw [hT, hV]
    cases n
    · exact hide (fun W => chopped_nan_f W HK HO HE)
    · exact hide (fun W => chopped_nan_t W HK HO HE)
/-- The trap and the number of a float's bits. -/
def trN (f P Q b H : Int) (s : Bool) (x : Int) : Int := chT H s (oN P Q x) (oK P Q x) (wq (oM f P Q b x))
def vaN (f P Q b H : Int) (s : Bool) (x : Int) : Int := chV H s (oN P Q x) (oK P Q x) (wq (oM f P Q b x))
theorem chopped_any {w e f P Q b k e' f' P' Q' b' x : Int} (kw : Kd w e f P Q b) (kk : Kd k e' f' P' Q' b') (s : Bool) (x0 : 0 ≤ x) (x1 : x < 18446744073709551616) :
    Ct 14 #[.int .i64 w, .int .i64 k, .int .u64 x, .bool s] (.tuple #[.int .u64 (vaN f P Q b (P' * Q') s x), .int .i64 (trN f P Q b (P' * Q') s x)]) := by
  obtain ⟨X, S, ho, hp, hm⟩ := open_kd kw x
  have := chopped_parts kw kk s hp (hide (fun W => open_any x kw.wd W x0 x1 ho))
  rw [hm] at this
  exact this
theorem chopped_none {w e f P Q b k e' f' P' Q' b' x : Int} (kw : Wd w e f P Q b) (kk : Wd k e' f' P' Q' b') (h : f = 0 ∨ f' = 0) (s : Bool) (x0 : 0 ≤ x) (x1 : x < 18446744073709551616) : Ct 14 #[.int .i64 w, .int .i64 k, .int .u64 x, .bool s] (.tuple #[.int .u64 0, .int .i64 0]) := by
  have HK := kn_any kk
  by_cases hf : f' = 0
  · rw [ne_f hf] at HK
    exact hide (fun W => chopped_no W HK)
  · rw [ne_t hf] at HK
    exact hide (fun W => chopped_zero_f W HK (hide (fun W => open_none kw (h.resolve_right hf) x W x0 x1)) (ends_any (kk.known hf) s))
/-- What Trap tells. -/
def tvN (f P Q b H : Int) (s : Bool) (x : Int) : Int := if trN f P Q b H s x = 0 then vaN f P Q b H s x else 0
theorem trap_any {w e f P Q b k e' f' P' Q' b' x : Int} (kw : Kd w e f P Q b) (kk : Kd k e' f' P' Q' b') (s : Bool) (x0 : 0 ≤ x) (x1 : x < 18446744073709551616) :
    Ct 6 #[.int .i64 w, .int .i64 k, .int .u64 x, .bool s] (.tuple #[.int .u64 (tvN f P Q b (P' * Q') s x), .int .i64 (trN f P Q b (P' * Q') s x)]) := by
  have HC := chopped_any kw kk s x0 x1
  unfold tvN
  generalize trN f P Q b (P' * Q') s x = t at *
  by_cases h : t = 0
  · subst h
    rw [if_pos rfl]
    exact hide (fun W => trap_n W HC)
  · rw [if_neg h]
    exact hide (fun W => trap_y W HC (ne_t h))
theorem trap_none {w e f P Q b k e' f' P' Q' b' x : Int} (kw : Wd w e f P Q b) (kk : Wd k e' f' P' Q' b') (h : f = 0 ∨ f' = 0) (s : Bool) (x0 : 0 ≤ x) (x1 : x < 18446744073709551616) :
    Ct 6 #[.int .i64 w, .int .i64 k, .int .u64 x, .bool s] (.tuple #[.int .u64 0, .int .i64 0]) := hide (fun W => trap_n W (chopped_none kw kk h s x0 x1))
theorem sat_any {w e f P Q b k e' f' P' Q' b' x : Int} (kw : Kd w e f P Q b) (kk : Kd k e' f' P' Q' b') (s : Bool) (x0 : 0 ≤ x) (x1 : x < 18446744073709551616) :
    Ct 7 #[.int .i64 w, .int .i64 k, .int .u64 x, .bool s] (.int .u64 (vaN f P Q b (P' * Q') s x)) := hide (fun W => sat_l W (chopped_any kw kk s x0 x1))
theorem sat_none {w e f P Q b k e' f' P' Q' b' x : Int} (kw : Wd w e f P Q b) (kk : Wd k e' f' P' Q' b') (h : f = 0 ∨ f' = 0) (s : Bool) (x0 : 0 ≤ x) (x1 : x < 18446744073709551616) :
    Ct 7 #[.int .i64 w, .int .i64 k, .int .u64 x, .bool s] (.int .u64 0) := hide (fun W => sat_l W (chopped_none kw kk h s x0 x1))
end Go.Proofs.Ytmbkpmcmhmldgaa
namespace Go.Proofs.Ytmbkpmcmhmldgaa
open Go.ChangeShapes Go.WideShapes Go.ChangeAt Go.RowKit Go.Joins
open Go.Proofs.Ytmbkpmcmhmldgaa.W

theorem Try.own : ownKnob Try.prog.godebug = none := by kernel_rfl
theorem word_of_wf {x : Int} (h : (Lit.int .u64 x).wf = true) : 0 ≤ x ∧ x < 18446744073709551616 := by
  simp [Lit.wf, IntKind.min, IntKind.max, IntKind.signed, IntKind.bits] at h
  exact ⟨by omega, by omega⟩

end Go.Proofs.Ytmbkpmcmhmldgaa
