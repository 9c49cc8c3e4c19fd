/- SumC, SumD, ProdB, ProdC, QuoB, QuoD, RadB, RadD, OrdA, OrdB, OrdC, OrdD, OrdE, OrdFw, WhM, WhN, WhO, CsM, ChM, CsC. -/
import Derived.Test.YtpbgpdmffejdgabGreatDoorS01
import Derived.Test.YtpbgpdmffejdgabGreatDoorS06
import Derived.Test.YtpbgpdmffejdgabGreatDoorS08
import Derived.Test.YtpbgpdmffejdgabGreatDoorS16
import Derived.Test.YtpbgpdmffejdgabGreatDoorS19
import Derived.Test.YtpbgpdmffejdgabGreatDoorS20
import Derived.Test.YtpbgpdmffejdgabGreatDoorS21
import Derived.Test.YtpbgpdmffejdgabGreatDoorS22
import Derived.Test.YtpbgpdmffejdgabGreatDoorS23
import Derived.Test.YtpbgpdmffejdgabGreatDoorS24
import Derived.Test.YtpbgpdmffejdgabGreatDoorS27
import Derived.Test.YtpbgpdmffejdgabGreatDoorS31
import Derived.Test.YtpbgpdmffejdgabGreatDoorS35
import Derived.Laws.BitsAllLaws
namespace Go.Proofs.YtpbgpdmffejdgabGreatDoor
open Go.RowKit
open Go.Proofs.YtpbgpdmffejdgabGreatDoor.W

/-- A float's bits without the sign, as a number. -/
def oc (P Q x : Int) : Nat := (x / P % Q * P + x % P).toNat
/-- Its kind. -/
def oK (P Q x : Int) : Int := if x / P % Q = Q - 1 then (if x % P = 0 then 2 else 3) else if x / P % Q = 0 ∧ x % P = 0 then 0 else 1
/-- Its sign. -/
def oN (P Q x : Int) : Bool := if x / P % Q = Q - 1 ∧ x % P ≠ 0 then false else sg P Q x
/-- Its number, 5000 bits up. -/
def oM (f P Q b x : Int) : Nat := if x / P % Q = Q - 1 then 0 else fval f.toNat (lowN f b) (oc P Q x)
/-- The sum of two floats. -/
def addB (f P Q b x y : Int) : Int := addP f P Q b (oN P Q x) (oK P Q x) (oM f P Q b x) (oN P Q y) (oK P Q y) (oM f P Q b y)
/-- The difference of two floats. -/
def subB (f P Q b x y : Int) : Int := addP f P Q b (oN P Q x) (oK P Q x) (oM f P Q b x) (!oN P Q y) (oK P Q y) (oM f P Q b y)

theorem mag_zero (X : Int) : mag X 0 = 0 := by
  unfold mag
  rw [show (0 : Int).toNat = 0 from rfl, Nat.zero_mul]
theorem open_kd {w e f P Q b : Int} (k : Kd w e f P Q b) (x : Int) : ∃ X S, Opened f P Q b (sg P Q x) (x / P % Q) (x % P) (oN P Q x) (oK P Q x) X S ∧ Prt f P Q b (oK P Q x) X S ∧ mag X S = oM f P Q b x := by
  obtain ⟨p1, p2, q1, q2⟩ := k.pos
  obtain ⟨hP, f0, f1, l0, l1, b0, b1⟩ := k.pow
  obtain ⟨u, v⟩ := exp_in (x / P) (show 1 ≤ Q by omega)
  obtain ⟨u', v'⟩ := exp_in x (show 1 ≤ P by omega)
  have hf := k.f0
  unfold oM oN oK oc
  generalize x / P % Q = e at *
  generalize x % P = y at *
  generalize sg P Q x = n at *
  by_cases h1 : e = Q - 1
  · rw [if_pos h1, if_pos h1]
    by_cases h2 : y = 0
    · rw [if_pos h2, if_neg (by omega)]
      exact ⟨0, 0, Or.inr (Or.inr (Or.inl ⟨hf, h1, h2, rfl, rfl, rfl, rfl⟩)), Or.inr (Or.inl ⟨rfl, rfl, rfl⟩), mag_zero 0⟩
    · rw [if_neg h2, if_pos ⟨h1, h2⟩]
      exact ⟨0, 0, Or.inr (Or.inl ⟨hf, h1, h2, rfl, rfl, rfl, rfl⟩), Or.inl ⟨rfl, rfl, rfl⟩, mag_zero 0⟩
  · rw [if_neg h1, if_neg h1, if_neg (fun h => h1 h.1)]
    by_cases h2 : e = 0
    · by_cases h3 : y = 0
      · rw [if_pos ⟨h2, h3⟩]
        refine ⟨0, 0, Or.inr (Or.inr (Or.inr (Or.inr (Or.inr ⟨hf, h1, h2, h3, rfl, rfl, rfl, rfl⟩)))), Or.inr (Or.inr (Or.inl ⟨rfl, rfl, rfl⟩)), ?_⟩
        rw [h2, h3, Int.zero_mul, mag_zero, show ((0 : Int) + 0).toNat = 0 from rfl, fval_zero]
      · rw [if_neg (fun h => h3 h.2)]
        have ho : Opened f P Q b n e y n 1 (1 - b - f) y := Or.inr (Or.inr (Or.inr (Or.inr (Or.inl ⟨hf, h1, h2, h3, rfl, rfl, rfl, rfl⟩))))
        refine ⟨1 - b - f, y, ho, opened_prt k ho u v u' v', ?_⟩
        have hv := fval_norm f.toNat (lowN f b) y.toNat (lowN f b) (by rw [Nat.pow_succ]; omega) (Nat.le_refl _) (fun h => absurd h (Nat.lt_irrefl _))
        rw [Nat.sub_self, Nat.zero_mul, Nat.zero_add] at hv
        rw [h2, Int.zero_mul, Int.zero_add, hv]
        unfold mag
        rw [show (1 - b - f + 5000).toNat = lowN f b by unfold lowN; omega]
    · rw [if_neg (fun h => h2 h.1)]
      have ho : Opened f P Q b n e y n 1 (e - b - f) (P + y) := Or.inr (Or.inr (Or.inr (Or.inl ⟨hf, h1, h2, rfl, rfl, rfl, rfl⟩)))
      refine ⟨e - b - f, P + y, ho, opened_prt k ho u v u' v', ?_⟩
      have hk : (e - b - f + 5000).toNat = lowN f b + (e.toNat - 1) := by unfold lowN; omega
      have hv := fval_norm f.toNat (lowN f b) (P + y).toNat (lowN f b + (e.toNat - 1)) (by rw [Nat.pow_succ]; omega) (by omega) (fun _ => by omega)
      unfold mag
      rw [hk, ← hv]
      congr 1
      rw [show lowN f b + (e.toNat - 1) - lowN f b = e.toNat - 1 by omega]
      have e1 : (e * P + y).toNat = e.toNat * 2 ^ f.toNat + y.toNat := by
        have : ((e.toNat * 2 ^ f.toNat : Nat) : Int) = e * P := by
          rw [Int.natCast_mul, ← hP, Int.toNat_of_nonneg u]
        omega
      have e2 : (P + y).toNat = 2 ^ f.toNat + y.toNat := by omega
      rw [e1, e2, ← Nat.add_assoc]
      congr 1
      obtain ⟨j, hj⟩ : ∃ j, e.toNat = j + 1 := ⟨e.toNat - 1, by omega⟩
      rw [hj, Nat.add_sub_cancel, Nat.add_mul, Nat.one_mul]

theorem sumSub_any {w e f P Q b x y : Int} (k : Kd w e f P Q b) (W : World) (x0 : 0 ≤ x) (x1 : x < 18446744073709551616) (y0 : 0 ≤ y) (y1 : y < 18446744073709551616) :
    Calls Tryz.prog 48 #[.int .i64 w, .int .u64 x, .int .u64 y] W fun r W' => r = .returned (.int .u64 (subB f P Q b x y)) ∧ Below W.heap.size W W' := by
  obtain ⟨X1, S1, o1, p1, m1⟩ := open_kd k x
  obtain ⟨X2, S2, o2, p2, m2⟩ := open_kd k y
  have HP := hide (fun W => plus_any k (oN P Q x) (!oN P Q y) p1 p2 W)
  unfold subB
  rw [m1, m2] at HP
  exact sumSub_l W (hide (fun W => open_any x k.wd W x0 x1 o1)) (hide (fun W => open_any y k.wd W y0 y1 o2)) HP

theorem sumAdd_any {w e f P Q b x y : Int} (k : Kd w e f P Q b) (W : World) (x0 : 0 ≤ x) (x1 : x < 18446744073709551616) (y0 : 0 ≤ y) (y1 : y < 18446744073709551616) :
    Calls Tryz.prog 47 #[.int .i64 w, .int .u64 x, .int .u64 y] W fun r W' => r = .returned (.int .u64 (addB f P Q b x y)) ∧ Below W.heap.size W W' := by
  obtain ⟨X1, S1, o1, p1, m1⟩ := open_kd k x
  obtain ⟨X2, S2, o2, p2, m2⟩ := open_kd k y
  have HP := hide (fun W => plus_any k (oN P Q x) (oN P Q y) p1 p2 W)
  unfold addB
  rw [m1, m2] at HP
  exact sumAdd_l W (hide (fun W => open_any x k.wd W x0 x1 o1)) (hide (fun W => open_any y k.wd W y0 y1 o2)) HP
end Go.Proofs.YtpbgpdmffejdgabGreatDoor
namespace Go.Proofs.YtpbgpdmffejdgabGreatDoor
open Go.RowKit
open Go.Proofs.YtpbgpdmffejdgabGreatDoor.W

theorem put_in {w e f P Q b x y : Int} {n : Bool} (h : Kd w e f P Q b) (x0 : 0 ≤ x) (x1 : x < Q) (y0 : 0 ≤ y) (y1 : y < P) :
    0 ≤ put f P Q n x y ∧ put f P Q n x y < 18446744073709551616 ∧ sg P Q (put f P Q n x y) = n ∧ put f P Q n x y / P % Q = x ∧ put f P Q n x y % P = y := by
  unfold sg
  cases n
  · rw [put_no h.f0]
    rcases h with ⟨-, -, -, rfl, rfl, -⟩ | ⟨-, -, -, rfl, rfl, -⟩
    · refine ⟨by omega, by omega, ?_, by omega, by omega⟩
      show ((x * 8388608 + y) / 2147483648 % 2 == 1) = false
      exact eq_f (by omega)
    · refine ⟨by omega, by omega, ?_, by omega, by omega⟩
      show ((x * 4503599627370496 + y) / 9223372036854775808 % 2 == 1) = false
      exact eq_f (by omega)
  · rw [put_yes h.f0]
    rcases h with ⟨-, -, -, rfl, rfl, -⟩ | ⟨-, -, -, rfl, rfl, -⟩
    · refine ⟨by omega, by omega, ?_, by omega, by omega⟩
      show ((x * 8388608 + y + 2147483648) / 2147483648 % 2 == 1) = true
      exact eq_t (by omega)
    · refine ⟨by omega, by omega, ?_, by omega, by omega⟩
      show ((x * 4503599627370496 + y + 9223372036854775808) / 9223372036854775808 % 2 == 1) = true
      exact eq_t (by omega)

/-- The infinite one's code. -/
def top (P Q : Int) : Int := (Q - 1) * P
theorem top_pos {w e f P Q b : Int} (k : Kd w e f P Q b) : 0 < top P Q := by
  unfold top
  rcases k with ⟨-, -, -, rfl, rfl, -⟩ | ⟨-, -, -, rfl, rfl, -⟩ <;> omega
/-- The canonical NaN. -/
def nanB (f P Q : Int) : Int := put f P Q false (Q - 1) (P / 2)

theorem code_parts {w e f P Q b c : Int} (k : Kd w e f P Q b) (c0 : 0 ≤ c) (c1 : c ≤ top P Q) : 0 ≤ c / P ∧ c / P < Q ∧ 0 ≤ c % P ∧ c % P < P ∧ c / P * P + c % P = c ∧ (c / P = Q - 1 ↔ c = top P Q) ∧ (c = top P Q → c % P = 0) := by
  unfold top at *
  rcases k with ⟨-, -, -, rfl, rfl, -⟩ | ⟨-, -, -, rfl, rfl, -⟩ <;> (refine ⟨?_, ?_, ?_, ?_, ?_, ?_, ?_⟩ <;> omega)

/-- A float's own code, sign and kind. -/
theorem fl_facts {w e f P Q b c : Int} (k : Kd w e f P Q b) (n : Bool) (c0 : 0 ≤ c) (c1 : c ≤ top P Q) :
    0 ≤ fl f P Q n c ∧ fl f P Q n c < 18446744073709551616 ∧ ((oc P Q (fl f P Q n c) : Nat) : Int) = c ∧ oN P Q (fl f P Q n c) = n ∧ cutN f P Q (fl f P Q n c) = fl f P Q n c ∧ (fl f P Q n c / P % Q == Q - 1 && fl f P Q n c % P != 0) = false := by
  obtain ⟨a0, a1, d0, d1, he, ht, hz⟩ := code_parts k c0 c1
  have hf : fl f P Q n c = put f P Q n (c / P) (c % P) := rfl
  obtain ⟨r0, r1, r2, r3, r4⟩ := put_in (n := n) k a0 a1 d0 d1
  rw [← hf] at r0 r1 r2 r3 r4
  refine ⟨r0, r1, ?_, ?_, ?_, ?_⟩
  · unfold oc
    rw [r3, r4, he, Int.toNat_of_nonneg c0]
  · unfold oN
    rw [r2, r3, r4, if_neg (fun h => h.2 (hz (ht.1 h.1)))]
  · rw [← cut_put k.wd.sz, r2, r3, r4]
    exact hf.symm
  · rw [r3, r4]
    by_cases h : c = top P Q
    · simp [hz h]
    · rw [eq_f (fun h' => h (ht.1 h'))]
      rfl
theorem nan_facts {w e f P Q b : Int} (k : Kd w e f P Q b) :
    0 ≤ nanB f P Q ∧ nanB f P Q < 18446744073709551616 ∧ oK P Q (nanB f P Q) = 3 ∧ cutN f P Q (nanB f P Q) = nanB f P Q ∧ (nanB f P Q / P % Q == Q - 1 && nanB f P Q % P != 0) = true := by
  obtain ⟨p1, p2, q1, q2⟩ := k.pos
  have h2 : P / 2 ≠ 0 := by omega
  obtain ⟨r0, r1, r2, r3, r4⟩ := put_in (x := Q - 1) (y := P / 2) (n := false) k (by omega) (by omega) (by omega) (by omega)
  unfold nanB
  refine ⟨r0, r1, ?_, ?_, ?_⟩
  · unfold oK
    rw [r3, r4, if_pos rfl, if_neg h2]
  · rw [← cut_put k.wd.sz, r2, r3, r4]
  · rw [r3, r4]
    simp [h2]

/-- A float by its code. -/
theorem kind_oc {w e f P Q b : Int} (k : Kd w e f P Q b) (x : Int) :
    (oK P Q x = 3 ∧ top P Q < oc P Q x ∧ oN P Q x = false) ∨ (oK P Q x = 2 ∧ (oc P Q x : Int) = top P Q ∧ oM f P Q b x = 0) ∨
    (oK P Q x = 1 ∧ 0 < oc P Q x ∧ (oc P Q x : Int) < top P Q ∧ oM f P Q b x = fval f.toNat (lowN f b) (oc P Q x)) ∨ (oK P Q x = 0 ∧ oc P Q x = 0 ∧ oM f P Q b x = 0) := by
  obtain ⟨p1, p2, q1, q2⟩ := k.pos
  obtain ⟨u, v⟩ := exp_in (x / P) (show 1 ≤ Q by omega)
  obtain ⟨u', v'⟩ := exp_in x (show 1 ≤ P by omega)
  unfold oM oN oK
  have hc : ((oc P Q x : Nat) : Int) = x / P % Q * P + x % P := by
    unfold oc
    have := Int.mul_nonneg u (show 0 ≤ P by omega)
    omega
  have hz := fval_zero f.toNat (lowN f b)
  generalize oc P Q x = c at *
  generalize x / P % Q = e at *
  generalize x % P = y at *
  generalize sg P Q x = n at *
  by_cases h1 : e = Q - 1
  · rw [if_pos h1, if_pos h1]
    by_cases h2 : y = 0
    · rw [if_pos h2]
      refine Or.inr (Or.inl ⟨rfl, ?_, rfl⟩)
      rw [hc, h1, h2]
      unfold top
      omega
    · rw [if_neg h2, if_pos ⟨h1, h2⟩]
      refine Or.inl ⟨rfl, ?_, rfl⟩
      rw [hc, h1]
      unfold top
      omega
  · rw [if_neg h1, if_neg h1]
    by_cases h2 : e = 0 ∧ y = 0
    · rw [if_pos h2]
      have : c = 0 := by
        rw [h2.1, h2.2] at hc
        omega
      subst this
      exact Or.inr (Or.inr (Or.inr ⟨rfl, rfl, hz⟩))
    · rw [if_neg h2]
      refine Or.inr (Or.inr (Or.inl ⟨rfl, ?_, ?_, rfl⟩))
      · rcases k with ⟨-, -, -, rfl, rfl, -⟩ | ⟨-, -, -, rfl, rfl, -⟩ <;> omega
      · unfold top
        rcases k with ⟨-, -, -, rfl, rfl, -⟩ | ⟨-, -, -, rfl, rfl, -⟩ <;> omega
theorem oM_fin {w e f P Q b : Int} (k : Kd w e f P Q b) {x : Int} (h : oK P Q x ≠ 3 ∧ oK P Q x ≠ 2) : oM f P Q b x = fval f.toNat (lowN f b) (oc P Q x) ∧ (oc P Q x : Int) < top P Q := by
  have ht := top_pos k
  rcases kind_oc k x with ⟨h1, _⟩ | ⟨h1, _⟩ | ⟨_, _, h2, h3⟩ | ⟨_, h2, h3⟩
  · exact absurd h1 h.1
  · exact absurd h1 h.2
  · exact ⟨h3, h2⟩
  · rw [h2, h3, fval_zero]
    exact ⟨rfl, ht⟩
/-- What a float's bits are by its sign and its code. -/
theorem cut_fl {w e f P Q b : Int} (k : Kd w e f P Q b) {x : Int} (h : oK P Q x ≠ 3) : cutN f P Q x = fl f P Q (oN P Q x) (oc P Q x : Int) := by
  obtain ⟨p1, p2, q1, q2⟩ := k.pos
  obtain ⟨u, v⟩ := exp_in (x / P) (show 1 ≤ Q by omega)
  obtain ⟨u', v'⟩ := exp_in x (show 1 ≤ P by omega)
  rw [← cut_put k.wd.sz]
  have hn : oN P Q x = sg P Q x := by
    unfold oN
    unfold oK at h
    by_cases h1 : x / P % Q = Q - 1
    · rw [if_pos h1] at h
      by_cases h2 : x % P = 0
      · rw [if_neg (fun h' => h'.2 h2)]
      · rw [if_neg h2] at h
        exact absurd rfl h
    · rw [if_neg (fun h' => h1 h'.1)]
  have hc : ((oc P Q x : Nat) : Int) = x / P % Q * P + x % P := by
    unfold oc
    have := Int.mul_nonneg u (show 0 ≤ P by omega)
    omega
  unfold fl
  rw [hn, hc]
  generalize x / P % Q = e at *
  generalize x % P = y at *
  congr 1
  · rw [Int.add_comm, Int.add_mul_ediv_right _ _ (by omega), Int.ediv_eq_zero_of_lt u' v', Int.zero_add]
  · rw [Int.add_comm, Int.add_mul_emod_self_right, Int.emod_eq_of_lt u' v']

theorem lid_top {w e f P Q b : Int} (k : Kd w e f P Q b) (c : Nat) : 0 ≤ lid P Q c ∧ lid P Q c ≤ top P Q := lid_in k c
theorem put_inf {w e f P Q b : Int} (k : Kd w e f P Q b) (n : Bool) : put f P Q n (Q - 1) 0 = fl f P Q n (top P Q) := by
  have ht := top_pos k
  obtain ⟨_, _, _, _, _, h1, h2⟩ := code_parts k (Int.le_of_lt ht) (Int.le_refl _)
  unfold fl
  rw [h1.2 rfl, h2 rfl]
theorem put_nought {f P Q : Int} (n : Bool) : put f P Q n 0 0 = fl f P Q n 0 := by
  unfold fl
  simp
/-- What a sum is: the canonical NaN, or a float. -/
theorem add_form {w e f P Q b : Int} (k : Kd w e f P Q b) (n1 n2 : Bool) (K1 K2 : Int) (M1 M2 : Nat) :
    addP f P Q b n1 K1 M1 n2 K2 M2 = nanB f P Q ∨ ∃ n c, 0 ≤ c ∧ c ≤ top P Q ∧ addP f P Q b n1 K1 M1 n2 K2 M2 = fl f P Q n c := by
  have ht := top_pos k
  unfold addP
  split
  · exact Or.inl rfl
  refine Or.inr ?_
  split
  · exact ⟨_, _, Int.le_of_lt ht, Int.le_refl _, put_inf k _⟩
  split
  · exact ⟨_, _, Int.le_of_lt ht, Int.le_refl _, put_inf k _⟩
  split
  · exact ⟨_, _, (lid_top k _).1, (lid_top k _).2, rfl⟩
  split
  · exact ⟨_, _, Int.le_refl _, Int.le_of_lt ht, put_nought _⟩
  split
  · exact ⟨_, _, (lid_top k _).1, (lid_top k _).2, rfl⟩
  · exact ⟨_, _, (lid_top k _).1, (lid_top k _).2, rfl⟩

/-- A float's number is rounded to itself. -/
theorem rd_val {w e f P Q b : Int} (_ : Kd w e f P Q b) (n : Bool) {c : Nat} (h : (c : Int) < top P Q) : rd f P Q b n (fval f.toNat (lowN f b) c) = fl f P Q n c := by
  unfold rd
  rw [fval_code]
  unfold lid
  rw [if_neg (show ¬ (Q - 1) * P ≤ (c : Int) by unfold top at h; omega)]

/-- A float less itself. -/
theorem sub_self {w e f P Q b : Int} (k : Kd w e f P Q b) {x : Int} : (oK P Q x = 2 → subB f P Q b x x = nanB f P Q) ∧ (oK P Q x ≠ 2 → oK P Q x ≠ 3 → subB f P Q b x x = 0) := by
  unfold subB addP
  refine ⟨fun h => ?_, fun h h3 => ?_⟩
  · rw [if_pos (Or.inr (Or.inr ⟨h, h, by cases oN P Q x <;> simp⟩))]
    rfl
  · rw [if_neg (by omega), if_neg h, if_neg h, if_neg (by cases oN P Q x <;> simp), if_pos rfl, put_no k.f0]
    omega
end Go.Proofs.YtpbgpdmffejdgabGreatDoor
namespace Go.Proofs.YtpbgpdmffejdgabGreatDoor
open Go.RowKit
open Go.Proofs.YtpbgpdmffejdgabGreatDoor.W

/-- The product of two floats that are taken apart. -/
def mulP (f P Q b : Int) (n1 : Bool) (K1 : Int) (M1 : Nat) (n2 : Bool) (K2 : Int) (M2 : Nat) : Int :=
  if K1 = 3 ∨ K2 = 3 ∨ (K1 = 2 ∧ K2 = 0) ∨ (K1 = 0 ∧ K2 = 2) then nanB f P Q
  else if K1 = 2 ∨ K2 = 2 then put f P Q (n1 != n2) (Q - 1) 0
  else rd f P Q b (n1 != n2) (M1 * M2 / 2 ^ Z5)
/-- The product of two floats. -/
def mulB (f P Q b x y : Int) : Int := mulP f P Q b (oN P Q x) (oK P Q x) (oM f P Q b x) (oN P Q y) (oK P Q y) (oM f P Q b y)

theorem mag_mul {X1 S1 X2 S2 : Int} (h1 : -1200 ≤ X1) (h2 : -1200 ≤ X2) : mag X1 S1 * mag X2 S2 / 2 ^ Z5 = S1.toNat * S2.toNat * 2 ^ (X1 + X2 + 5000).toNat := by
  unfold mag
  have e : S1.toNat * 2 ^ (X1 + 5000).toNat * (S2.toNat * 2 ^ (X2 + 5000).toNat) = S1.toNat * S2.toNat * 2 ^ (X1 + X2 + 5000).toNat * 2 ^ Z5 := by
    rw [Nat.mul_mul_mul_comm, ← Nat.pow_add, Nat.mul_assoc _ (2 ^ (X1 + X2 + 5000).toNat), ← Nat.pow_add, show (X1 + 5000).toNat + (X2 + 5000).toNat = (X1 + X2 + 5000).toNat + Z5 by unfold Z5; omega]
  rw [e]
  exact Nat.mul_div_cancel _ (Nat.two_pow_pos Z5)
/-- What a product is: the canonical NaN, or a float of that sign. -/
theorem mul_form {w e f P Q b : Int} (k : Kd w e f P Q b) (K1 K2 : Int) (M1 M2 : Nat) :
    (∀ n1 n2, mulP f P Q b n1 K1 M1 n2 K2 M2 = nanB f P Q) ∨ ∃ c, 0 ≤ c ∧ c ≤ top P Q ∧ ∀ n1 n2, mulP f P Q b n1 K1 M1 n2 K2 M2 = fl f P Q (n1 != n2) c := by
  have ht := top_pos k
  unfold mulP
  by_cases h : K1 = 3 ∨ K2 = 3 ∨ (K1 = 2 ∧ K2 = 0) ∨ (K1 = 0 ∧ K2 = 2)
  · exact Or.inl (fun _ _ => if_pos h)
  · refine Or.inr ?_
    by_cases h2 : K1 = 2 ∨ K2 = 2
    · exact ⟨_, Int.le_of_lt ht, Int.le_refl _, fun n1 n2 => by rw [if_neg h, if_pos h2]; exact put_inf k _⟩
    · exact ⟨_, (lid_top k _).1, (lid_top k _).2, fun n1 n2 => by rw [if_neg h, if_neg h2]; rfl⟩
end Go.Proofs.YtpbgpdmffejdgabGreatDoor
namespace Go.Proofs.YtpbgpdmffejdgabGreatDoor
open Go.RowKit
open Go.Proofs.YtpbgpdmffejdgabGreatDoor.W

theorem pack_wide {w e f P Q b E : Int} (k : Kd w e f P Q b) (n : Bool) (v : Nat) (hv : W2 v) (h0 : -4000 ≤ E) (h1 : E ≤ 4000) (W : World) :
    Calls Tryz.prog 100 #[.int .i64 w, .bool n, .agg #[.int .u64 (hi v), .int .u64 (lo v)], .int .i64 E, .bool false] W fun r W' => r = .returned (.int .u64 (rd f P Q b n (v * 2 ^ (E + 5000).toNat))) ∧ Below W.heap.size W W' := by
  have := pack_known v n false E k hv W
  rw [cap_id (by omega) (by omega), num_plain _ _ (by omega)] at this
  exact this
theorem either_any {k K1 X1 S1 K2 X2 S2 : Int} (n1 n2 : Bool) (W : World) :
    Calls Tryz.prog 150 #[.int .i64 k, .agg #[.bool n1, .int .i64 K1, .int .i64 X1, .int .u64 S1], .agg #[.bool n2, .int .i64 K2, .int .i64 X2, .int .u64 S2]] W fun r W' => r = .returned (.bool (K1 == k || K2 == k)) ∧ Below W.heap.size W W' := by
  by_cases h : K1 = k
  · rw [eq_t h, Bool.true_or]
    exact either_t W (eq_t h)
  · rw [eq_f h, Bool.false_or]
    exact either_f W (eq_f h)
theorem or_t {K1 K2 k : Int} (h : K1 = k ∨ K2 = k) : (K1 == k || K2 == k) = true := by simpa using h
theorem or_f {K1 K2 k : Int} (h : ¬ (K1 = k ∨ K2 = k)) : (K1 == k || K2 == k) = false := by
  rw [eq_f (fun h' => h (Or.inl h')), eq_f (fun h' => h (Or.inr h'))]
  rfl
theorem sig_mul {S1 S2 : Int} (s1 : S1 < 9007199254740992) (t1 : S2 < 9007199254740992) : S1.toNat * S2.toNat < 340282366920938463463374607431768211456 := by
  have h1 : S1.toNat * S2.toNat ≤ 9007199254740992 * S2.toNat := Nat.mul_le_mul_right _ (by omega)
  omega

theorem times_any {w e f P Q b K1 X1 S1 K2 X2 S2 : Int} (k : Kd w e f P Q b) (n1 n2 : Bool) (h1 : Prt f P Q b K1 X1 S1) (h2 : Prt f P Q b K2 X2 S2) (W : World) :
    Calls Tryz.prog 103 #[.int .i64 w, .agg #[.bool n1, .int .i64 K1, .int .i64 X1, .int .u64 S1], .agg #[.bool n2, .int .i64 K2, .int .i64 X2, .int .u64 S2]] W fun r W' => r = .returned (.int .u64 (mulP f P Q b n1 K1 (mag X1 S1) n2 K2 (mag X2 S2))) ∧ Below W.heap.size W W' := by
  obtain ⟨x0, x1, s0, -, s1⟩ := h1.in k
  obtain ⟨y0, y1, t0, -, t1⟩ := h2.in k
  have hK1 : K1 = 0 ∨ K1 = 1 ∨ K1 = 2 ∨ K1 = 3 := by unfold Prt at h1; omega
  have hK2 : K2 = 0 ∨ K2 = 1 ∨ K2 = 2 ∨ K2 = 3 := by unfold Prt at h2; omega
  have H3 := fun W => either_any (k := 3) (K1 := K1) (X1 := X1) (S1 := S1) (K2 := K2) (X2 := X2) (S2 := S2) n1 n2 W
  have H2 := fun W => either_any (k := 2) (K1 := K1) (X1 := X1) (S1 := S1) (K2 := K2) (X2 := X2) (S2 := S2) n1 n2 W
  have H0 := fun W => either_any (k := 0) (K1 := K1) (X1 := X1) (S1 := S1) (K2 := K2) (X2 := X2) (S2 := S2) n1 n2 W
  by_cases a3 : K1 = 3 ∨ K2 = 3
  · rw [show mulP f P Q b n1 K1 (mag X1 S1) n2 K2 (mag X2 S2) = nanB f P Q by unfold mulP; rw [if_pos (by omega)]]
    rw [or_t a3] at H3
    exact times_nan W (hide H3) (hide (fun W => nan_any k.wd W))
  rw [or_f a3] at H3
  by_cases a2 : K1 = 2 ∨ K2 = 2
  · rw [or_t a2] at H2
    by_cases a0 : K1 = 0 ∨ K2 = 0
    · rw [show mulP f P Q b n1 K1 (mag X1 S1) n2 K2 (mag X2 S2) = nanB f P Q by unfold mulP; rw [if_pos (by omega)]]
      rw [or_t a0] at H0
      exact times_in W (hide H3) (hide H2) (hide H0) (hide (fun W => nan_any k.wd W))
    · rw [show mulP f P Q b n1 K1 (mag X1 S1) n2 K2 (mag X2 S2) = put f P Q (n1 != n2) (Q - 1) 0 by unfold mulP; rw [if_neg (by omega), if_pos a2]]
      rw [or_f a0] at H0
      exact times_inf W (hide H3) (hide H2) (hide H0) (hide (fun W => inf_any _ k.wd W))
  · rw [or_f a2] at H2
    rw [show mulP f P Q b n1 K1 (mag X1 S1) n2 K2 (mag X2 S2) = rd f P Q b (n1 != n2) (mag X1 S1 * mag X2 S2 / 2 ^ Z5) by unfold mulP; rw [if_neg (by omega), if_neg a2]]
    by_cases a0 : K1 = 0 ∨ K2 = 0
    · rw [or_t a0] at H0
      have hz : mag X1 S1 * mag X2 S2 = 0 := by
        rcases a0 with h | h
        · rw [h1.mag0 (by omega), Nat.zero_mul]
        · rw [h2.mag0 (by omega), Nat.mul_zero]
      rw [hz, Nat.zero_div, rd_zero k]
      exact times_zero W (hide H3) (hide H2) (hide H0) (hide (fun W => zero_any _ k.wd W))
    · rw [or_f a0] at H0
      rw [mag_mul x0 y0]
      exact times_fin W (hide H3) (hide H2) (hide H0) (i64_id (by omega) (by omega)) (hide (fun W => mul_n S1 S2 W s0 (by omega) t0 (by omega))) (hide (fun W => pack_wide k _ _ (sig_mul s1 t1) (by omega) (by omega) W))

theorem mul_any' {w e f P Q b x y : Int} (k : Kd w e f P Q b) (W : World) (x0 : 0 ≤ x) (x1 : x < 18446744073709551616) (y0 : 0 ≤ y) (y1 : y < 18446744073709551616) :
    Calls Tryz.prog 49 #[.int .i64 w, .int .u64 x, .int .u64 y] W fun r W' => r = .returned (.int .u64 (mulB f P Q b x y)) ∧ Below W.heap.size W W' := by
  obtain ⟨X1, S1, o1, p1, m1⟩ := open_kd k x
  obtain ⟨X2, S2, o2, p2, m2⟩ := open_kd k y
  have HP := hide (fun W => times_any k (oN P Q x) (oN P Q y) p1 p2 W)
  unfold mulB
  rw [m1, m2] at HP
  exact mul_l W (hide (fun W => open_any x k.wd W x0 x1 o1)) (hide (fun W => open_any y k.wd W y0 y1 o2)) HP
end Go.Proofs.YtpbgpdmffejdgabGreatDoor
namespace Go.Proofs.YtpbgpdmffejdgabGreatDoor
open Go.RowKit
open Go.Proofs.YtpbgpdmffejdgabGreatDoor.W

/-- The quotient of two floats that are taken apart. -/
def divP (f P Q b : Int) (n1 : Bool) (K1 : Int) (M1 : Nat) (n2 : Bool) (K2 : Int) (M2 : Nat) : Int :=
  if K1 = 3 ∨ K2 = 3 ∨ (K1 = 2 ∧ K2 = 2) ∨ (K1 = 0 ∧ K2 = 0) then nanB f P Q
  else if K1 = 2 ∨ K2 = 0 then put f P Q (n1 != n2) (Q - 1) 0
  else if K1 = 0 ∨ K2 = 2 then put f P Q (n1 != n2) 0 0
  else rdQ f P Q b (n1 != n2) (M1 * 2 ^ Z5) M2
/-- The quotient of two floats. -/
def divB (f P Q b x y : Int) : Int := divP f P Q b (oN P Q x) (oK P Q x) (oM f P Q b x) (oN P Q y) (oK P Q y) (oM f P Q b y)

theorem mag_div (f P Q b : Int) (n : Bool) {X1 S1 X2 S2 : Int} (h1 : -1200 ≤ X1) (h2 : -1200 ≤ X2) (h3 : X2 ≤ 1100) :
    rdQ f P Q b n (mag X1 S1 * 2 ^ Z5) (mag X2 S2) = rdQ f P Q b n (S1.toNat * 2 ^ (X1 - X2 + 5000).toNat) S2.toNat := by
  unfold rdQ mag
  have e : S1.toNat * 2 ^ (X1 + 5000).toNat * 2 ^ Z5 = S1.toNat * 2 ^ (X1 - X2 + 5000).toNat * 2 ^ (X2 + 5000).toNat := by
    rw [Nat.mul_assoc, ← Nat.pow_add, Nat.mul_assoc, ← Nat.pow_add, show (X1 + 5000).toNat + Z5 = (X1 - X2 + 5000).toNat + (X2 + 5000).toNat by unfold Z5; omega]
  rw [e, codeQ_scale _ _ _ _ _ (Nat.two_pow_pos _)]

/-- What a quotient is: the canonical NaN, or a float of that sign. -/
theorem div_form {w e f P Q b : Int} (k : Kd w e f P Q b) (K1 K2 : Int) (M1 M2 : Nat) :
    (∀ n1 n2, divP f P Q b n1 K1 M1 n2 K2 M2 = nanB f P Q) ∨ ∃ c, 0 ≤ c ∧ c ≤ top P Q ∧ ∀ n1 n2, divP f P Q b n1 K1 M1 n2 K2 M2 = fl f P Q (n1 != n2) c := by
  have ht := top_pos k
  unfold divP
  by_cases h : K1 = 3 ∨ K2 = 3 ∨ (K1 = 2 ∧ K2 = 2) ∨ (K1 = 0 ∧ K2 = 0)
  · exact Or.inl (fun _ _ => if_pos h)
  · refine Or.inr ?_
    by_cases h2 : K1 = 2 ∨ K2 = 0
    · exact ⟨_, Int.le_of_lt ht, Int.le_refl _, fun n1 n2 => by rw [if_neg h, if_pos h2]; exact put_inf k _⟩
    · by_cases h3 : K1 = 0 ∨ K2 = 2
      · exact ⟨0, Int.le_refl _, Int.le_of_lt ht, fun n1 n2 => by rw [if_neg h, if_neg h2, if_pos h3]; exact put_nought _⟩
      · exact ⟨_, (lid_top k _).1, (lid_top k _).2, fun n1 n2 => by rw [if_neg h, if_neg h2, if_neg h3]; rfl⟩
/-- The bits of a power of two. -/
theorem pow_any {w e f P Q b E : Int} (k : Kd w e f P Q b) (j0 : 1 ≤ E) (j1 : E < Q - 1) :
    0 ≤ put f P Q false E 0 ∧ put f P Q false E 0 < 18446744073709551616 ∧ oK P Q (put f P Q false E 0) = 1 ∧ oN P Q (put f P Q false E 0) = false ∧ oM f P Q b (put f P Q false E 0) = 2 ^ (5000 + E - b).toNat := by
  obtain ⟨p1, p2, q1, q2⟩ := k.pos
  obtain ⟨hP, f0, f1, l0, l1, b0, b1⟩ := k.pow
  obtain ⟨r0, r1, r2, r3, r4⟩ := put_in (x := E) (y := 0) (n := false) k (by omega) (by omega) (by omega) (by omega)
  refine ⟨r0, r1, ?_, ?_, ?_⟩
  · unfold oK
    rw [r3, r4, if_neg (by omega), if_neg (by omega)]
  · unfold oN
    rw [r3, r4, if_neg (by omega), r2]
  · unfold oM oc
    rw [r3, r4, if_neg (by omega)]
    have hv := fval_norm f.toNat (lowN f b) (2 ^ f.toNat) (lowN f b + (E.toNat - 1)) (by rw [Nat.pow_succ]; have := Nat.two_pow_pos f.toNat; omega) (by omega) (fun _ => Nat.le_refl _)
    rw [← Nat.pow_add] at hv
    have e1 : (E * P + 0).toNat = (lowN f b + (E.toNat - 1) - lowN f b) * 2 ^ f.toNat + 2 ^ f.toNat := by
      rw [show lowN f b + (E.toNat - 1) - lowN f b = E.toNat - 1 by omega]
      have : ((E.toNat * 2 ^ f.toNat : Nat) : Int) = E * P := by
        rw [Int.natCast_mul, ← hP, Int.toNat_of_nonneg (by omega)]
      obtain ⟨i, hi⟩ : ∃ i, E.toNat = i + 1 := ⟨E.toNat - 1, by omega⟩
      rw [hi] at this ⊢
      rw [Nat.add_sub_cancel]
      rw [Nat.add_mul, Nat.one_mul] at this
      omega
    rw [e1, hv]
    congr 1
    unfold lowN
    omega

theorem mag_shift {X S N : Int} (h0 : -1200 ≤ X) (h1 : -1100 ≤ N) (h2 : N ≤ 1100) : mag X S * 2 ^ Z5 / 2 ^ (5000 - N).toNat = S.toNat * 2 ^ (X + N + 5000).toNat ∧ mag X S * 2 ^ Z5 = S.toNat * 2 ^ (X + N + 5000).toNat * 2 ^ (5000 - N).toNat := by
  have e : mag X S * 2 ^ Z5 = S.toNat * 2 ^ (X + N + 5000).toNat * 2 ^ (5000 - N).toNat := by
    unfold mag
    rw [Nat.mul_assoc, ← Nat.pow_add, Nat.mul_assoc, ← Nat.pow_add, show (X + 5000).toNat + Z5 = (X + N + 5000).toNat + (5000 - N).toNat by unfold Z5; omega]
  exact ⟨by rw [e]; exact Nat.mul_div_cancel _ (Nat.two_pow_pos _), e⟩

/-- By a power of two. -/
theorem div_pow {w e f P Q b E : Int} (k : Kd w e f P Q b) (x : Int) (j0 : 1 ≤ E) (j1 : E < Q - 1) :
    divB f P Q b x (put f P Q false E 0) = if oK P Q x = 3 then nanB f P Q else if oK P Q x = 2 then put f P Q (oN P Q x) (Q - 1) 0 else rd f P Q b (oN P Q x) (oM f P Q b x * 2 ^ Z5 / 2 ^ (5000 + E - b).toNat) := by
  obtain ⟨-, -, h1, h2, h3⟩ := pow_any k j0 j1
  obtain ⟨X, S, -, p1, m1⟩ := open_kd k x
  obtain ⟨u0, u1, -⟩ := p1.in k
  have hE : -1100 ≤ b - E ∧ b - E ≤ 1100 := by rcases k with ⟨-, -, -, -, rfl, rfl⟩ | ⟨-, -, -, -, rfl, rfl⟩ <;> omega
  unfold divB
  rw [h1, h2, h3]
  unfold divP
  have hn : (oN P Q x != false) = oN P Q x := by cases oN P Q x <;> rfl
  rw [hn]
  by_cases k3 : oK P Q x = 3
  · rw [if_pos (Or.inl k3), if_pos k3]
  · rw [if_neg (by omega), if_neg k3]
    by_cases k2 : oK P Q x = 2
    · rw [if_pos (Or.inl k2), if_pos k2]
    · rw [if_neg (by omega), if_neg k2]
      by_cases k0 : oK P Q x = 0
      · have hm : oM f P Q b x = 0 := by rw [← m1]; exact p1.mag0 (by omega)
        rw [if_pos (Or.inl k0), hm, Nat.zero_mul, Nat.zero_div, rd_zero k]
      · rw [if_neg (by omega), ← m1]
        obtain ⟨s1, s2⟩ := mag_shift (X := X) (S := S) (N := b - E) u0 hE.1 hE.2
        rw [show (5000 + E - b) = 5000 - (b - E) by omega, s1, s2]
        unfold rdQ rd
        rw [codeQ_even _ _ _ _ (Nat.two_pow_pos _)]
/-- By one. -/
theorem div_one {w e f P Q b : Int} (k : Kd w e f P Q b) {x : Int} (h : oK P Q x ≠ 3) : divB f P Q b x (put f P Q false b 0) = cutN f P Q x := by
  have hb : 1 ≤ b ∧ b < Q - 1 := by rcases k with ⟨-, -, -, -, rfl, rfl⟩ | ⟨-, -, -, -, rfl, rfl⟩ <;> omega
  rw [div_pow k x hb.1 hb.2, cut_fl k h, if_neg h]
  by_cases k2 : oK P Q x = 2
  · rw [if_pos k2, put_inf k]
    rcases kind_oc k x with ⟨h1, _⟩ | ⟨_, h1, _⟩ | ⟨h1, _⟩ | ⟨h1, _⟩
    · exact absurd h1 h
    · rw [h1]
    · omega
    · omega
  · obtain ⟨h1, h2⟩ := oM_fin k ⟨h, k2⟩
    rw [if_neg k2, show (5000 + b - b).toNat = Z5 by unfold Z5; omega, Nat.mul_div_cancel _ (Nat.two_pow_pos Z5), h1, rd_val k _ h2]
/-- A quotient of 128 bits and a bit for the rest. -/
theorem quo_pack {w e f P Q b X1 S1 X2 S2 : Int} (k : Kd w e f P Q b) (h1 : Prt f P Q b 1 X1 S1) (h2 : Prt f P Q b 1 X2 S2) (up : Nat) (hup : up + Go.bitLen S1.toNat = 128) (m : Bool)
    (hm : m = (S1.toNat * 2 ^ up % S2.toNat != 0)) :
    code f.toNat (lowN f b) (num (S1.toNat * 2 ^ up / S2.toNat) m (cap (X1 - up - X2))) = codeQ f.toNat (lowN f b) (S1.toNat * 2 ^ (X1 - X2 + 5000).toNat) S2.toNat := by
  obtain ⟨x0, x1, s0, -, s1⟩ := h1.in k
  obtain ⟨y0, y1, t0, -, t1⟩ := h2.in k
  obtain ⟨hP, f0, f1, l0, l1, b0, b1⟩ := k.pow
  have hS1 : S1.toNat ≠ 0 := by unfold Prt at h1; omega
  have hS2 : 0 < S2.toNat := by unfold Prt at h2; omega
  have hu1 : up ≤ 128 := by omega
  rw [cap_id (by omega) (by omega)]
  obtain ⟨j, hj⟩ : ∃ j : Nat, (j : Int) = X1 - up - X2 + 5000 := ⟨(X1 - up - X2 + 5000).toNat, by omega⟩
  have e1 : S1.toNat * 2 ^ (X1 - X2 + 5000).toNat = S1.toNat * 2 ^ up * 2 ^ j := by
    rw [Nat.mul_assoc, ← Nat.pow_add, show (X1 - X2 + 5000).toNat = up + j by omega]
  have e2 : S1.toNat * 2 ^ (X1 - X2 + 5000).toNat / (S2.toNat * 2 ^ j) = S1.toNat * 2 ^ up / S2.toNat := by
    rw [e1, Nat.mul_div_mul_right _ _ (Nat.two_pow_pos j)]
  have e3 : S1.toNat * 2 ^ (X1 - X2 + 5000).toNat % (S2.toNat * 2 ^ j) = S1.toNat * 2 ^ up % S2.toNat * 2 ^ j := by
    rw [e1, Nat.mul_mod_mul_right]
  have hlen : Go.bitLen (S1.toNat * 2 ^ up) = 128 := by rw [bl_shl _ _ hS1]; omega
  have hbig : 2 ^ 74 ≤ S1.toNat * 2 ^ up / S2.toNat := by
    rw [Nat.le_div_iff_mul_le hS2]
    have h3 : 2 ^ 127 ≤ S1.toNat * 2 ^ up := bl_ge (by omega)
    have h4 : 2 ^ 74 * S2.toNat ≤ 2 ^ 74 * 9007199254740992 := Nat.mul_le_mul_left _ (by omega)
    omega
  have hq0 : S1.toNat * 2 ^ up / S2.toNat ≠ 0 := by omega
  have hqb : 75 ≤ Go.bitLen (S1.toNat * 2 ^ up / S2.toNat) := by
    have := bl_mono hbig
    rw [show Go.bitLen (2 ^ 74) = 75 from by decide +kernel] at this
    exact this
  have hun : j + 1 ≤ unitQ f.toNat (lowN f b) (S1.toNat * 2 ^ (X1 - X2 + 5000).toNat) S2.toNat := by
    unfold unitQ
    have : Go.bitLen (S1.toNat * 2 ^ (X1 - X2 + 5000).toNat / S2.toNat) = j + Go.bitLen (S1.toNat * 2 ^ up / S2.toNat) := by
      rw [← e2, ← Nat.div_div_eq_div_mul]
      exact Go.bitLen_shift _ j (by rw [Nat.div_div_eq_div_mul, e2]; exact hq0)
    omega
  rw [codeQ_sticky _ _ _ _ j hS2 (by omega) (by rw [e2]; exact hq0) hun, e2, e3]
  unfold num
  rw [show (X1 - ↑up - X2 + 4999).toNat = j - 1 by omega]
  congr 3
  rw [hm]
  by_cases hr : S1.toNat * 2 ^ up % S2.toNat = 0
  · rw [hr, Nat.zero_mul, if_pos rfl]
    rfl
  · rw [if_neg (by
      intro h
      rcases Nat.mul_eq_zero.1 h with h | h
      · exact hr h
      · exact absurd h (Nat.ne_of_gt (Nat.two_pow_pos j)))]
    rw [show (S1.toNat * 2 ^ up % S2.toNat != 0) = true by simpa using hr]
    rfl

end Go.Proofs.YtpbgpdmffejdgabGreatDoor
namespace Go.Proofs.YtpbgpdmffejdgabGreatDoor
open Go.RowKit
open Go.Proofs.YtpbgpdmffejdgabGreatDoor.W

theorem isNone_t {w K1 X1 S1 K2 X2 S2 : Int} {n1 n2 : Bool} (h : K1 = 3 ∨ K2 = 3 ∨ (K1 = 2 ∧ K2 = 2) ∨ (K1 = 0 ∧ K2 = 0)) (W : World) :
    Calls Tryz.prog 151 #[.agg #[.bool n1, .int .i64 K1, .int .i64 X1, .int .u64 S1, .bool n2, .int .i64 K2, .int .i64 X2, .int .u64 S2, .int .i64 w]] W fun r W' => r = .returned (.bool true) ∧ Below W.heap.size W W' := by
  by_cases he : K1 = K2
  · have := isNone_same (w := w) (X1 := X1) (S1 := S1) (X2 := X2) (S2 := S2) (n1 := n1) (n2 := n2) W (eq_t he)
    rw [ne_t (show K1 ≠ 1 by omega)] at this
    exact this
  · by_cases h3 : K1 = 3
    · exact isNone_one W (eq_f he) (eq_t h3)
    · have := isNone_two (w := w) (X1 := X1) (S1 := S1) (X2 := X2) (S2 := S2) (n1 := n1) (n2 := n2) W (eq_f he) (eq_f h3)
      rw [eq_t (show K2 = 3 by omega)] at this
      exact this
theorem isNone_f {w K1 X1 S1 K2 X2 S2 : Int} {n1 n2 : Bool} (hK1 : K1 = 0 ∨ K1 = 1 ∨ K1 = 2 ∨ K1 = 3) (h : ¬ (K1 = 3 ∨ K2 = 3 ∨ (K1 = 2 ∧ K2 = 2) ∨ (K1 = 0 ∧ K2 = 0))) (W : World) :
    Calls Tryz.prog 151 #[.agg #[.bool n1, .int .i64 K1, .int .i64 X1, .int .u64 S1, .bool n2, .int .i64 K2, .int .i64 X2, .int .u64 S2, .int .i64 w]] W fun r W' => r = .returned (.bool false) ∧ Below W.heap.size W W' := by
  by_cases he : K1 = K2
  · have := isNone_same (w := w) (X1 := X1) (S1 := S1) (X2 := X2) (S2 := S2) (n1 := n1) (n2 := n2) W (eq_t he)
    rw [ne_f (show K1 = 1 by omega)] at this
    exact this
  · have := isNone_two (w := w) (X1 := X1) (S1 := S1) (X2 := X2) (S2 := S2) (n1 := n1) (n2 := n2) W (eq_f he) (eq_f (by omega))
    rw [eq_f (show K2 ≠ 3 by omega)] at this
    exact this

theorem shl_full {S1 : Int} {up : Nat} (hup : up + Go.bitLen S1.toNat = 128) : S1.toNat * 2 ^ up < 340282366920938463463374607431768211456 := by
  by_cases h0 : S1.toNat = 0
  · rw [h0, Nat.zero_mul]
    omega
  · have := bl_lt (x := S1.toNat * 2 ^ up) (k := 128) (by rw [bl_shl _ _ h0]; omega)
    omega

theorem quoFin_any {w e f P Q b X1 S1 X2 S2 : Int} (k : Kd w e f P Q b) (n1 n2 : Bool) (h1 : Prt f P Q b 1 X1 S1) (h2 : Prt f P Q b 1 X2 S2) (W : World) :
    Calls Tryz.prog 104 #[.agg #[.bool n1, .int .i64 1, .int .i64 X1, .int .u64 S1, .bool n2, .int .i64 1, .int .i64 X2, .int .u64 S2, .int .i64 w]] W fun r W' => r = .returned (.int .u64 (rdQ f P Q b (n1 != n2) (S1.toNat * 2 ^ (X1 - X2 + 5000).toNat) S2.toNat)) ∧ Below W.heap.size W W' := by
  obtain ⟨x0, x1, s0, -, s1⟩ := h1.in k
  obtain ⟨y0, y1, t0, -, t1⟩ := h2.in k
  have hS2 : 0 < S2 := by unfold Prt at h2; omega
  have hbl := bl_64 (x := S1.toNat) (by omega)
  obtain ⟨up, hup⟩ : ∃ up : Nat, up + Go.bitLen S1.toNat = 128 := ⟨128 - Go.bitLen S1.toNat, by omega⟩
  have hw2 : W2 S1.toNat := by unfold W2; omega
  have hv2 : W2 (S1.toNat * 2 ^ up) := shl_full hup
  have hs : shlN S1.toNat (up : Int) = S1.toNat * 2 ^ up := by
    unfold shlN
    rw [Int.toNat_natCast, Nat.mod_eq_of_lt (shl_full hup)]
  have hU : IntKind.i64.wrap (128 - (Go.bitLen S1.toNat : Int)) = (up : Int) := by rw [i64_id (by omega) (by omega)]; omega
  have hE : IntKind.i64.wrap (X1 - (up : Int)) = X1 - up := i64_id (by omega) (by omega)
  have hY : IntKind.i64.wrap (X1 - (up : Int) - X2) = X1 - up - X2 := i64_id (by omega) (by omega)
  have HL := fun W => left_n S1.toNat (up : Int) W hw2
  rw [hs] at HL
  have HI := fun W => into_l (K2 := 1) (X2 := X2) (n2 := n2) W (hide (fun W => div_n (S1.toNat * 2 ^ up) S2 W hv2 hS2 (by omega)))
  have HP := fun W => pack_known (S1.toNat * 2 ^ up / S2.toNat) (n1 != n2) (((S1.toNat * 2 ^ up % S2.toNat : Nat) : Int) != 0) (X1 - up - X2) k (Nat.lt_of_le_of_lt (Nat.div_le_self _ _) hv2) W
  rw [quo_pack k h1 h2 up hup _ (by
    by_cases hr : S1.toNat * 2 ^ up % S2.toNat = 0
    · rw [hr]; rfl
    · rw [show (S1.toNat * 2 ^ up % S2.toNat != 0) = true by simpa using hr, ne_t (by omega)])] at HP
  exact nearestQ_fin W (hide (fun W => isNone_f (by omega) (by omega) W)) (hide (fun W => isNeg_l W)) (by rfl) (by rfl) (by rfl) (by rfl)
    (hide (fun W => raised_l W (hide (fun W => of_n S1 W s0 (by omega))) (hide (fun W => len_n S1.toNat W hw2)) hU (hide HL) hE)) (hide HI) hY (hide HP)

theorem quo_any {w e f P Q b K1 X1 S1 K2 X2 S2 : Int} (k : Kd w e f P Q b) (n1 n2 : Bool) (h1 : Prt f P Q b K1 X1 S1) (h2 : Prt f P Q b K2 X2 S2) (W : World) :
    Calls Tryz.prog 104 #[.agg #[.bool n1, .int .i64 K1, .int .i64 X1, .int .u64 S1, .bool n2, .int .i64 K2, .int .i64 X2, .int .u64 S2, .int .i64 w]] W fun r W' => r = .returned (.int .u64 (divP f P Q b n1 K1 (mag X1 S1) n2 K2 (mag X2 S2))) ∧ Below W.heap.size W W' := by
  obtain ⟨x0, x1, s0, -, s1⟩ := h1.in k
  obtain ⟨y0, y1, t0, -, t1⟩ := h2.in k
  have hK1 : K1 = 0 ∨ K1 = 1 ∨ K1 = 2 ∨ K1 = 3 := by unfold Prt at h1; omega
  have hK2 : K2 = 0 ∨ K2 = 1 ∨ K2 = 2 ∨ K2 = 3 := by unfold Prt at h2; omega
  by_cases a : K1 = 3 ∨ K2 = 3 ∨ (K1 = 2 ∧ K2 = 2) ∨ (K1 = 0 ∧ K2 = 0)
  · rw [show divP f P Q b n1 K1 (mag X1 S1) n2 K2 (mag X2 S2) = nanB f P Q by unfold divP; rw [if_pos a]]
    exact nearestQ_nan W (hide (fun W => isNone_t a W)) (hide (fun W => nan_any k.wd W))
  have HN := hide (fun W => isNone_f (w := w) (X1 := X1) (S1 := S1) (X2 := X2) (S2 := S2) (n1 := n1) (n2 := n2) hK1 a W)
  have HG := hide (fun W => isNeg_l (w := w) (K1 := K1) (X1 := X1) (S1 := S1) (K2 := K2) (X2 := X2) (S2 := S2) (n1 := n1) (n2 := n2) W)
  by_cases c : K1 = 2 ∨ K2 = 0
  · rw [show divP f P Q b n1 K1 (mag X1 S1) n2 K2 (mag X2 S2) = put f P Q (n1 != n2) (Q - 1) 0 by unfold divP; rw [if_neg a, if_pos c]]
    by_cases a2 : K1 = 2
    · exact nearestQ_i1 W HN HG (eq_t a2) (hide (fun W => inf_any _ k.wd W))
    · exact nearestQ_i2 W HN HG (eq_f a2) (eq_t (by omega)) (hide (fun W => inf_any _ k.wd W))
  · by_cases d : K1 = 0 ∨ K2 = 2
    · rw [show divP f P Q b n1 K1 (mag X1 S1) n2 K2 (mag X2 S2) = put f P Q (n1 != n2) 0 0 by unfold divP; rw [if_neg a, if_neg c, if_pos d]]
      by_cases a0 : K1 = 0
      · exact nearestQ_z1 W HN HG (eq_f (by omega)) (eq_f (by omega)) (eq_t a0) (hide (fun W => zero_any _ k.wd W))
      · exact nearestQ_z2 W HN HG (eq_f (by omega)) (eq_f (by omega)) (eq_f a0) (eq_t (by omega)) (hide (fun W => zero_any _ k.wd W))
    · rw [show divP f P Q b n1 K1 (mag X1 S1) n2 K2 (mag X2 S2) = rdQ f P Q b (n1 != n2) (mag X1 S1 * 2 ^ Z5) (mag X2 S2) by unfold divP; rw [if_neg a, if_neg c, if_neg d], mag_div f P Q b _ x0 y0 y1]
      obtain rfl : K1 = 1 := by omega
      obtain rfl : K2 = 1 := by omega
      exact quoFin_any k n1 n2 h1 h2 W

theorem div_any {w e f P Q b x y : Int} (k : Kd w e f P Q b) (W : World) (x0 : 0 ≤ x) (x1 : x < 18446744073709551616) (y0 : 0 ≤ y) (y1 : y < 18446744073709551616) :
    Calls Tryz.prog 50 #[.int .i64 w, .int .u64 x, .int .u64 y] W fun r W' => r = .returned (.int .u64 (divB f P Q b x y)) ∧ Below W.heap.size W W' := by
  obtain ⟨X1, S1, o1, p1, m1⟩ := open_kd k x
  obtain ⟨X2, S2, o2, p2, m2⟩ := open_kd k y
  have HP := hide (fun W => quo_any k (oN P Q x) (oN P Q y) p1 p2 W)
  unfold divB
  rw [m1, m2] at HP
  exact quoDiv_l W (hide (fun W => open_any x k.wd W x0 x1 o1)) (hide (fun W => open_any y k.wd W y0 y1 o2)) HP
end Go.Proofs.YtpbgpdmffejdgabGreatDoor
namespace Go.Proofs.YtpbgpdmffejdgabGreatDoor
open Go.RowKit
open Go.Proofs.YtpbgpdmffejdgabGreatDoor.W

/-- The code of the float that is nearest to the root of T. -/
def IsRoot (f L T c : Nat) : Prop := ∀ d, rootLe f L T d ↔ c ≤ d

theorem IsRoot.uniq {f L T c d : Nat} (h : IsRoot f L T c) (k : IsRoot f L T d) : c = d := by
  have h1 := (h d).1 ((k d).2 (Nat.le_refl _))
  have h2 := (k c).1 ((h c).2 (Nat.le_refl _))
  omega
theorem IsRoot.mono {f L T T' c d : Nat} (h : IsRoot f L T c) (k : IsRoot f L T' d) (ht : T ≤ T') : c ≤ d := (h d).1 (rootLe_mono ht ((k d).2 (Nat.le_refl _)))
/-- A finite float's root is finite, and normal. -/
theorem root_in {w e f P Q b : Int} (k : Kd w e f P Q b) {x : Int} (hx : oK P Q x = 1) {c : Nat} (h : IsRoot f.toNat (lowN f b) (oM f P Q b x * 2 ^ Z5) c) : 2 ^ f.toNat < c ∧ (c : Int) < top P Q := by
  obtain ⟨hP, f0, f1, l0, l1, b0, b1⟩ := k.pow
  obtain ⟨hm, ht⟩ := oM_fin k (x := x) ⟨by omega, by omega⟩
  have hpos : 0 < oc P Q x := by
    rcases kind_oc k x with ⟨h1, _⟩ | ⟨h1, _⟩ | ⟨_, h1, _⟩ | ⟨h1, _⟩
    · omega
    · omega
    · exact h1
    · omega
  have htp := top_pos k
  obtain ⟨tp, htt⟩ : ∃ tp : Nat, (tp : Int) = top P Q := ⟨(top P Q).toNat, by omega⟩
  rw [hm] at h
  generalize oc P Q x = d at *
  have hb5 : f + 3 ≤ b := by rcases k with ⟨-, -, rfl, -, -, rfl⟩ | ⟨-, -, rfl, -, -, rfl⟩ <;> omega
  have hL : lowN f b + f.toNat + b.toNat = 5001 := by unfold lowN; omega
  -- one lies among the floats
  have hone : 2 ^ Z5 ≤ fval f.toNat (lowN f b) (tp - 1) := by
    have hv := fval_norm f.toNat (lowN f b) (2 ^ f.toNat) (lowN f b + (b.toNat - 1)) (by rw [Nat.pow_succ]; have := Nat.two_pow_pos f.toNat; omega) (by omega) (fun _ => Nat.le_refl _)
    rw [← Nat.pow_add, show lowN f b + (b.toNat - 1) - lowN f b = b.toNat - 1 by omega] at hv
    have e : f.toNat + (lowN f b + (b.toNat - 1)) = Z5 := by unfold Z5; omega
    rw [e] at hv
    rw [← hv, fval_le]
    have : ((b.toNat - 1) * 2 ^ f.toNat + 2 ^ f.toNat : Nat) ≤ tp - 1 := by
      have h2 : (((b.toNat - 1) * 2 ^ f.toNat + 2 ^ f.toNat : Nat) : Int) = b * P := by
        rw [show (b.toNat - 1) * 2 ^ f.toNat + 2 ^ f.toNat = b.toNat * 2 ^ f.toNat by
          obtain ⟨i, hi⟩ : ∃ i, b.toNat = i + 1 := ⟨b.toNat - 1, by omega⟩
          rw [hi, Nat.add_sub_cancel, Nat.add_mul, Nat.one_mul], Int.natCast_mul, ← hP, Int.toNat_of_nonneg (by omega)]
      have h3 : b * P + 1 ≤ top P Q := by
        unfold top
        rcases k with ⟨-, -, -, rfl, rfl, rfl⟩ | ⟨-, -, -, rfl, rfl, rfl⟩ <;> omega
      omega
    exact this
  constructor
  · refine Decidable.byContradiction fun hn => ?_
    have h1 := (h (2 ^ f.toNat)).2 (by omega)
    have h2 : mid2 f.toNat (lowN f b) (2 ^ f.toNat) = (2 * 2 ^ f.toNat + 1) * 2 ^ lowN f b := by
      have := mid2_norm f.toNat (lowN f b) (2 ^ f.toNat) (lowN f b) (by rw [Nat.pow_succ]; have := Nat.two_pow_pos f.toNat; omega) (Nat.le_refl _) (fun h => absurd h (Nat.lt_irrefl _))
      rw [Nat.sub_self, Nat.zero_mul, Nat.zero_add] at this
      exact this
    have h3 : mid2 f.toNat (lowN f b) (2 ^ f.toNat) ≤ 2 ^ (f.toNat + 2 + lowN f b) := by
      rw [h2, Nat.pow_add]
      refine Nat.mul_le_mul_right _ ?_
      rw [show f.toNat + 2 = f.toNat + 1 + 1 by omega, Nat.pow_succ, Nat.pow_succ]
      have := Nat.two_pow_pos f.toNat
      omega
    have h4 := Nat.mul_le_mul h3 h3
    rw [← Nat.pow_add] at h4
    have h5 : 2 ^ (lowN f b) ≤ fval f.toNat (lowN f b) d := by
      have := (fval_le (f := f.toNat) (L := lowN f b) (c := 1) (d := d)).2 hpos
      have e1 : fval f.toNat (lowN f b) 1 = 2 ^ lowN f b := by
        unfold fval
        rw [if_pos (by rw [Nat.pow_succ]; have := Nat.two_pow_pos f.toNat; omega), Nat.one_mul]
      omega
    have h6 := Nat.mul_le_mul_right (2 ^ Z5) h5
    rw [← Nat.pow_add] at h6
    have h7 : 2 ^ (f.toNat + 2 + lowN f b + (f.toNat + 2 + lowN f b)) ≤ 2 ^ (lowN f b + Z5) := Nat.pow_le_pow_right (by omega) (by unfold Z5; omega)
    have h8 := Nat.two_pow_pos (lowN f b + Z5)
    unfold rootLe at h1
    generalize 2 ^ (lowN f b + Z5) = A at *
    generalize fval f.toNat (lowN f b) d * 2 ^ Z5 = T at *
    generalize mid2 f.toNat (lowN f b) (2 ^ f.toNat) * mid2 f.toNat (lowN f b) (2 ^ f.toNat) = mm at *
    omega
  · have h1 : rootLe f.toNat (lowN f b) (fval f.toNat (lowN f b) d * 2 ^ Z5) (tp - 1) := by
      have h2 : fval f.toNat (lowN f b) d ≤ fval f.toNat (lowN f b) (tp - 1) := fval_le.2 (by omega)
      have h3 := Nat.mul_le_mul h2 hone
      have h4 : 2 * fval f.toNat (lowN f b) (tp - 1) < mid2 f.toNat (lowN f b) (tp - 1) := by
        have := (fval_lt (f := f.toNat) (L := lowN f b) (c := tp - 1) (d := tp - 1 + 1)).2 (by omega)
        unfold mid2
        omega
      have h5 := sq_lt.2 h4
      rw [Nat.mul_mul_mul_comm] at h5
      unfold rootLe
      exact Or.inl (by omega)
    have h2 := (h (tp - 1)).1 h1
    omega

end Go.Proofs.YtpbgpdmffejdgabGreatDoor
namespace Go.Proofs.YtpbgpdmffejdgabGreatDoor
open Go.RowKit
open Go.Proofs.YtpbgpdmffejdgabGreatDoor.W

theorem fval_ge (f L : Nat) : ∀ c, c ≤ fval f L c
  | 0 => Nat.zero_le _
  | c + 1 => Nat.lt_of_le_of_lt (fval_ge f L c) (fval_lt.2 (Nat.lt_succ_self c))

theorem isRoot_ex (f L T : Nat) : ∃ c, IsRoot f L T c := by
  have key : ∀ d, rootLe f L T d → ∃ c, IsRoot f L T c := by
    intro d
    induction d with
    | zero => exact fun h => ⟨0, fun e => ⟨fun _ => Nat.zero_le _, fun _ => rootLe_up h (Nat.zero_le _)⟩⟩
    | succ d ih =>
      intro h
      by_cases hd : rootLe f L T d
      · exact ih hd
      · refine ⟨d + 1, fun e => ⟨fun he => ?_, fun he => rootLe_up h he⟩⟩
        exact Decidable.byContradiction fun hn => hd (rootLe_up he (by omega))
  refine key (4 * T + 1) (Or.inl ?_)
  have h1 : 4 * T + 1 ≤ mid2 f L (4 * T + 1) := Nat.le_trans (fval_ge f L _) (Nat.le_add_right _ _)
  have h2 := Nat.mul_le_mul h1 h1
  have h3 : 4 * T + 1 ≤ (4 * T + 1) * (4 * T + 1) := Nat.le_mul_of_pos_right _ (by omega)
  omega
/-- c is the code of the root of a finite float. -/
def IsR (f P Q b x : Int) (c : Nat) : Prop := oK P Q x = 1 → IsRoot f.toNat (lowN f b) (oM f P Q b x * 2 ^ Z5) c
theorem isR_ex (f P Q b x : Int) : ∃ c, IsR f P Q b x c := by
  obtain ⟨c, h⟩ := isRoot_ex f.toNat (lowN f b) (oM f P Q b x * 2 ^ Z5)
  exact ⟨c, fun _ => h⟩
/-- The root of a float. -/
def sqB (f P Q x : Int) (c : Nat) : Int :=
  if oK P Q x = 0 then put f P Q (oN P Q x) 0 0 else if oK P Q x = 3 ∨ oN P Q x = true then nanB f P Q else if oK P Q x = 2 then put f P Q false (Q - 1) 0 else fl f P Q false c

theorem sq_full {v k q : Nat} (v0 : v ≠ 0) (h : 127 ≤ Go.bitLen v + k) (hq : v * 2 ^ k < (q + 1) * (q + 1)) : 64 ≤ Go.bitLen q := by
  refine Decidable.byContradiction fun hn => ?_
  have h1 := bl_lt (x := q) (k := 63) (by omega)
  have h2 := Nat.mul_le_mul (show q + 1 ≤ 2 ^ 63 by omega) (show q + 1 ≤ 2 ^ 63 by omega)
  have h3 : v * 2 ^ k < 2 ^ 126 := Nat.lt_of_lt_of_le hq (Nat.le_trans h2 (by decide))
  have h5 := bitLen_of (k := 126) h3
  rw [bl_shl _ _ v0] at h5
  omega

theorem root_pack {w e f P Q b x X S Y : Int} {c q n : Nat} {m : Bool} (k : Kd w e f P Q b) (hx : oK P Q x = 1) (p : Prt f P Q b 1 X S) (hm : mag X S = oM f P Q b x) (hc : IsRoot f.toNat (lowN f b) (oM f P Q b x * 2 ^ Z5) c)
    (h1 : 127 ≤ Go.bitLen S.toNat + n) (h2 : n ≤ 128) (hY : 2 * Y = X - n) (hq : q * q ≤ S.toNat * 2 ^ n) (hq1 : S.toNat * 2 ^ n < (q + 1) * (q + 1)) (hb : m = decide (q * q ≠ S.toNat * 2 ^ n)) :
    fl f P Q false (lid P Q (code f.toNat (lowN f b) (num q m (cap Y)) : Nat)) = fl f P Q false c := by
  obtain ⟨x0, x1, s0, -, s1⟩ := p.in k
  obtain ⟨hP, f0, f1, l0, l1, b0, b1⟩ := k.pow
  have hS : S.toNat ≠ 0 := by unfold Prt at p; omega
  have hf : 1 ≤ f.toNat ∧ f.toNat ≤ 52 := by rcases k with ⟨-, -, rfl, -⟩ | ⟨-, -, rfl, -⟩ <;> decide
  have hbl := sq_full hS h1 hq1
  rw [cap_id (by omega) (by omega)]
  have hT : oM f P Q b x * 2 ^ Z5 = S.toNat * 2 ^ n * (2 ^ (Y + 5000).toNat * 2 ^ (Y + 5000).toNat) := by
    rw [← hm]
    unfold mag
    rw [← Nat.pow_add, Nat.mul_assoc, ← Nat.pow_add, Nat.mul_assoc, ← Nat.pow_add, show (X + 5000).toNat + Z5 = n + ((Y + 5000).toNat + (Y + 5000).toNat) by unfold Z5; omega]
  have hr : IsRoot f.toNat (lowN f b) (oM f P Q b x * 2 ^ Z5) (code f.toNat (lowN f b) (num q m Y)) := by
    intro d
    rw [hT, root_code f.toNat (lowN f b) (S.toNat * 2 ^ n) q m.toNat (Y + 5000).toNat hf.1 hq hq1 (by rw [hb]; by_cases hh : q * q = S.toNat * 2 ^ n <;> simp [hh]) (by omega) (by omega) d]
    unfold num
    rw [show (Y + 5000).toNat - 1 = (Y + 4999).toNat by omega]
  rw [hr.uniq hc]
  have hi := (root_in k hx hc).2
  unfold lid
  rw [if_neg (by unfold top at hi; omega)]

theorem sqrt_any {w e f P Q b x : Int} {c : Nat} (k : Kd w e f P Q b) (W : World) (x0 : 0 ≤ x) (x1 : x < 18446744073709551616) (hc : IsR f P Q b x c) :
    Calls Tryz.prog 46 #[.int .i64 w, .int .u64 x] W fun r W' => r = .returned (.int .u64 (sqB f P Q x c)) ∧ Below W.heap.size W W' := by
  obtain ⟨X, S, o1, p1, m1⟩ := open_kd k x
  have HO := hide (fun W => open_any x k.wd W x0 x1 o1)
  have hK : oK P Q x = 0 ∨ oK P Q x = 1 ∨ oK P Q x = 2 ∨ oK P Q x = 3 := by unfold Prt at p1; omega
  unfold sqB
  by_cases a0 : oK P Q x = 0
  · rw [if_pos a0]
    exact sqrt_z W HO (eq_t a0) (hide (fun W => zero_any _ k.wd W))
  rw [if_neg a0]
  by_cases a3 : oK P Q x = 3
  · rw [if_pos (Or.inl a3)]
    exact sqrt_n W HO (eq_f a0) (eq_t a3) (hide (fun W => nan_any k.wd W))
  by_cases hn : oN P Q x = true
  · rw [if_pos (Or.inr hn)]
    rw [hn] at HO
    exact sqrt_m W HO (eq_f a0) (eq_f a3) (hide (fun W => nan_any k.wd W))
  rw [if_neg (fun h => h.elim a3 hn)]
  rw [show oN P Q x = false by simpa using hn] at HO
  by_cases a2 : oK P Q x = 2
  · rw [if_pos a2]
    exact sqrt_i W HO (eq_f a0) (eq_f a3) (eq_t a2) (hide (fun W => inf_any _ k.wd W))
  rw [if_neg a2]
  have a1 : oK P Q x = 1 := by omega
  have hr := hc a1
  rw [a1] at HO p1
  obtain ⟨u0, u1, s0, -, s1⟩ := p1.in k
  have hS : S.toNat ≠ 0 := by unfold Prt at p1; omega
  have HE := fun W => evened_any (K := 1) (X := X) (v := S.toNat) (n := false) W hS (by omega) (by omega) (by omega)
  rw [show ((S.toNat : Nat) : Int) = S by omega] at HE
  refine sqrt_f W HO (fun v Y => ∃ n : Nat, v = S.toNat * 2 ^ n ∧ (127 ≤ Go.bitLen S.toNat + n ∧ n ≤ 128 ∧ W2 v) ∧ 2 * Y = X - n)
    (fun Y q m => ∃ n : Nat, (127 ≤ Go.bitLen S.toNat + n ∧ n ≤ 128 ∧ q < 18446744073709551616) ∧ 2 * Y = X - n ∧ q * q ≤ S.toNat * 2 ^ n ∧ S.toNat * 2 ^ n < (q + 1) * (q + 1) ∧ m = decide (q * q ≠ S.toNat * 2 ^ n))
    (hide fun W => (HE W).mono ?_) (hide ?_) (hide ?_) (hide ?_)
  · rintro _ w' ⟨n, rfl, ⟨h1, h2, h3⟩, hb⟩
    have h4 := Int.tmod_add_mul_tdiv (X - (n : Int)) 2
    refine ⟨_, _, (X - (n : Int)).tdiv 2, rfl, i64_id (by omega) (by omega), ⟨n, rfl, ⟨h1, by omega, ?_⟩, by omega⟩, hb⟩
    have := bl_lt (x := S.toNat * 2 ^ n) (k := 128) (by rw [bl_shl _ _ hS]; omega)
    unfold W2
    omega
  · rintro v Y W ⟨n, rfl, ⟨h1, h2, h3⟩, h4⟩
    refine (root_n _ W h3).mono ?_
    rintro _ w' ⟨q, rfl, hq, hq1, hb⟩
    exact ⟨q, _, rfl, ⟨n, ⟨h1, h2, sq_word h3 hq⟩, h4, hq, hq1, rfl⟩, hb⟩
  · rintro Y q m W ⟨n, ⟨h1, h2, h3⟩, h4, hq, hq1, -⟩
    have HF := of_n (q : Int) W (by omega) (by omega)
    rw [Int.toNat_natCast] at HF
    exact HF
  · rintro Y q m W ⟨n, ⟨h1, h2, h3⟩, h4, hq, hq1, hm⟩
    have := pack_known q false m Y k (by unfold W2; omega) W
    rw [root_pack k a1 p1 m1 hr h1 h2 h4 hq hq1 hm] at this
    exact this
end Go.Proofs.YtpbgpdmffejdgabGreatDoor
namespace Go.Proofs.YtpbgpdmffejdgabGreatDoor
open Go.RowKit
open Go.Proofs.YtpbgpdmffejdgabGreatDoor.W

set_option maxRecDepth 100000 in
set_option maxHeartbeats 2000000 in
theorem okn_l {w e f : Int} (W : World) (HF : Ct 113 #[.int .i64 w] (.tuple #[.int .i64 e, .int .i64 f])) :
    Calls Tryz.prog 71 #[.int .i64 w] W fun r W' => r = .returned (.bool (e != 0)) ∧ Below W.heap.size W W' := by
  go_enter Tryz.func71, Tryz.ntmps71
  go_wp2_with fail
  refine (unhide HF _).mono ?_
  rintro _ w1 ⟨rfl, hb⟩
  have HB := hide hb
  clear hb
  go_wp2_with fail
  go_ret
  exact ⟨rfl, unhide HB⟩
set_option maxRecDepth 100000 in
set_option maxHeartbeats 2000000 in
theorem rank_n {w x : Int} (W : World) (HKN : Ct 71 #[.int .i64 w] (.bool true)) (HIN : Ct 6 #[.int .i64 w, .int .u64 x] (.bool true)) :
    Calls Tryz.prog 112 #[.int .i64 w, .int .u64 x] W fun r W' => r = .returned (.tuple #[.int .i64 0, .bool false]) ∧ Below W.heap.size W W' := by
  go_enter Tryz.func112, Tryz.ntmps112
  go_wp2_with fail
  refine (unhide HKN _).mono ?_
  rintro _ w1 ⟨rfl, hb⟩
  have HB := hide hb
  clear hb
  go_wp2_with fail
  refine (unhide HIN _).mono ?_
  rintro _ w2 ⟨rfl, hb⟩
  have HB := hide (bthen (unhide HB) hb)
  clear hb
  go_wp2_with fail
  go_ret2
  exact ⟨rfl, unhide HB⟩
set_option maxRecDepth 100000 in
set_option maxHeartbeats 2000000 in
theorem rank_p {w x c Z A B : Int} (W : World) (HKN : Ct 71 #[.int .i64 w] (.bool true)) (HIN : Ct 6 #[.int .i64 w, .int .u64 x] (.bool false)) (HZ : Ct 96 #[.int .i64 w, .bool true] (.int .u64 Z)) (HC : Ct 11 #[.int .i64 w, .int .u64 x] (.int .u64 c)) (h1 : bits .andNot .u64 c Z = A) (h2 : IntKind.i64.wrap A = A) (h3 : bits .and .u64 c Z = B) (h4 : (B != 0) = false) :
    Calls Tryz.prog 112 #[.int .i64 w, .int .u64 x] W fun r W' => r = .returned (.tuple #[.int .i64 A, .bool true]) ∧ Below W.heap.size W W' := by
  go_enter Tryz.func112, Tryz.ntmps112
  go_wp2_with fail
  refine (unhide HKN _).mono ?_
  rintro _ w1 ⟨rfl, hb⟩
  have HB := hide hb
  clear hb
  go_wp2_with fail
  refine (unhide HIN _).mono ?_
  rintro _ w2 ⟨rfl, hb⟩
  have HB := hide (bthen (unhide HB) hb)
  clear hb
  go_wp2_with fail
  refine (unhide HZ _).mono ?_
  rintro _ w3 ⟨rfl, hb⟩
  have HB := hide (bthen (unhide HB) hb)
  clear hb
  go_wp2_with fail
  refine (unhide HC _).mono ?_
  rintro _ w4 ⟨rfl, hb⟩
  have HB := hide (bthen (unhide HB) hb)
  clear hb
  go_wp2_with fail
  go_ret2
  exact ⟨rfl, unhide HB⟩
set_option maxRecDepth 100000 in
set_option maxHeartbeats 2000000 in
theorem rank_m {w x c Z A B M : Int} (W : World) (HKN : Ct 71 #[.int .i64 w] (.bool true)) (HIN : Ct 6 #[.int .i64 w, .int .u64 x] (.bool false)) (HZ : Ct 96 #[.int .i64 w, .bool true] (.int .u64 Z)) (HC : Ct 11 #[.int .i64 w, .int .u64 x] (.int .u64 c)) (h1 : bits .andNot .u64 c Z = A) (h2 : IntKind.i64.wrap A = A) (h3 : bits .and .u64 c Z = B) (h4 : (B != 0) = true) (h5 : IntKind.i64.wrap (-A) = M) :
    Calls Tryz.prog 112 #[.int .i64 w, .int .u64 x] W fun r W' => r = .returned (.tuple #[.int .i64 M, .bool true]) ∧ Below W.heap.size W W' := by
  go_enter Tryz.func112, Tryz.ntmps112
  go_wp2_with fail
  refine (unhide HKN _).mono ?_
  rintro _ w1 ⟨rfl, hb⟩
  have HB := hide hb
  clear hb
  go_wp2_with fail
  refine (unhide HIN _).mono ?_
  rintro _ w2 ⟨rfl, hb⟩
  have HB := hide (bthen (unhide HB) hb)
  clear hb
  go_wp2_with fail
  refine (unhide HZ _).mono ?_
  rintro _ w3 ⟨rfl, hb⟩
  have HB := hide (bthen (unhide HB) hb)
  clear hb
  go_wp2_with fail
  refine (unhide HC _).mono ?_
  rintro _ w4 ⟨rfl, hb⟩
  have HB := hide (bthen (unhide HB) hb)
  clear hb
  go_wp2_with fail
  go_ret2
  exact ⟨rfl, unhide HB⟩

end Go.Proofs.YtpbgpdmffejdgabGreatDoor
namespace Go.Proofs.YtpbgpdmffejdgabGreatDoor
open Go.RowKit
open Go.Proofs.YtpbgpdmffejdgabGreatDoor.W

set_option maxRecDepth 100000 in
set_option maxHeartbeats 2000000 in
theorem eq_c {x y : Int} (W : World)  :
    Calls Tryz.prog 70 #[.int .i64 x, .int .i64 y] W fun r W' => r = .returned (.bool (x == y)) ∧ Below W.heap.size W W' := by
  go_enter Tryz.func70, Tryz.ntmps70
  go_wp2_with fail
  go_ret
  exact ⟨by simp, Below.refl _ _⟩
set_option maxRecDepth 100000 in
set_option maxHeartbeats 2000000 in
theorem lt_c {x y : Int} (W : World)  :
    Calls Tryz.prog 72 #[.int .i64 x, .int .i64 y] W fun r W' => r = .returned (.bool (decide (x < y))) ∧ Below W.heap.size W W' := by
  go_enter Tryz.func72, Tryz.ntmps72
  go_wp2_with fail
  go_ret
  exact ⟨by simp, Below.refl _ _⟩
set_option maxRecDepth 100000 in
set_option maxHeartbeats 2000000 in
theorem gt_c {x y : Int} (W : World)  :
    Calls Tryz.prog 73 #[.int .i64 x, .int .i64 y] W fun r W' => r = .returned (.bool (decide (y < x))) ∧ Below W.heap.size W W' := by
  go_enter Tryz.func73, Tryz.ntmps73
  go_wp2_with fail
  go_ret
  exact ⟨by simp, Below.refl _ _⟩
set_option maxRecDepth 100000 in
set_option maxHeartbeats 2000000 in
theorem ask_t_eq {w x y a b : Int} {t : Bool} (W : World) (H1 : Ct 112 #[.int .i64 w, .int .u64 x] (.tuple #[.int .i64 a, .bool true])) (H2 : Ct 112 #[.int .i64 w, .int .u64 y] (.tuple #[.int .i64 b, .bool true])) (H3 : Ct 70 #[.int .i64 a, .int .i64 b] (.bool t)) :
    Calls Tryz.prog 69 #[.int .i64 w, .int .u64 x, .int .u64 y, .func (.func 70) #[] #[]] W fun r W' => r = .returned (.bool t) ∧ Below W.heap.size W W' := by
  go_enter Tryz.func69, Tryz.ntmps69
  go_wp2_with fail
  refine (unhide H1 _).mono ?_
  rintro _ w1 ⟨rfl, hb⟩
  have HB := hide hb
  clear hb
  go_wp2_with fail
  refine (unhide H2 _).mono ?_
  rintro _ w2 ⟨rfl, hb⟩
  have HB := hide (bthen (unhide HB) hb)
  clear hb
  go_wp2_with fail
  refine (unhide H3 _).mono ?_
  rintro _ w3 ⟨rfl, hb⟩
  have HB := hide (bthen (unhide HB) hb)
  clear hb
  go_wp2_with fail
  go_ret
  exact ⟨rfl, unhide HB⟩
set_option maxRecDepth 100000 in
set_option maxHeartbeats 2000000 in
theorem ask_t_lt {w x y a b : Int} {t : Bool} (W : World) (H1 : Ct 112 #[.int .i64 w, .int .u64 x] (.tuple #[.int .i64 a, .bool true])) (H2 : Ct 112 #[.int .i64 w, .int .u64 y] (.tuple #[.int .i64 b, .bool true])) (H3 : Ct 72 #[.int .i64 a, .int .i64 b] (.bool t)) :
    Calls Tryz.prog 69 #[.int .i64 w, .int .u64 x, .int .u64 y, .func (.func 72) #[] #[]] W fun r W' => r = .returned (.bool t) ∧ Below W.heap.size W W' := by
  go_enter Tryz.func69, Tryz.ntmps69
  go_wp2_with fail
  refine (unhide H1 _).mono ?_
  rintro _ w1 ⟨rfl, hb⟩
  have HB := hide hb
  clear hb
  go_wp2_with fail
  refine (unhide H2 _).mono ?_
  rintro _ w2 ⟨rfl, hb⟩
  have HB := hide (bthen (unhide HB) hb)
  clear hb
  go_wp2_with fail
  refine (unhide H3 _).mono ?_
  rintro _ w3 ⟨rfl, hb⟩
  have HB := hide (bthen (unhide HB) hb)
  clear hb
  go_wp2_with fail
  go_ret
  exact ⟨rfl, unhide HB⟩
set_option maxRecDepth 100000 in
set_option maxHeartbeats 2000000 in
theorem ask_t_gt {w x y a b : Int} {t : Bool} (W : World) (H1 : Ct 112 #[.int .i64 w, .int .u64 x] (.tuple #[.int .i64 a, .bool true])) (H2 : Ct 112 #[.int .i64 w, .int .u64 y] (.tuple #[.int .i64 b, .bool true])) (H3 : Ct 73 #[.int .i64 a, .int .i64 b] (.bool t)) :
    Calls Tryz.prog 69 #[.int .i64 w, .int .u64 x, .int .u64 y, .func (.func 73) #[] #[]] W fun r W' => r = .returned (.bool t) ∧ Below W.heap.size W W' := by
  go_enter Tryz.func69, Tryz.ntmps69
  go_wp2_with fail
  refine (unhide H1 _).mono ?_
  rintro _ w1 ⟨rfl, hb⟩
  have HB := hide hb
  clear hb
  go_wp2_with fail
  refine (unhide H2 _).mono ?_
  rintro _ w2 ⟨rfl, hb⟩
  have HB := hide (bthen (unhide HB) hb)
  clear hb
  go_wp2_with fail
  refine (unhide H3 _).mono ?_
  rintro _ w3 ⟨rfl, hb⟩
  have HB := hide (bthen (unhide HB) hb)
  clear hb
  go_wp2_with fail
  go_ret
  exact ⟨rfl, unhide HB⟩
set_option maxRecDepth 100000 in
set_option maxHeartbeats 2000000 in
theorem ask_f1 {w x y a b : Int} {v : Value} {t : Bool} (W : World) (H1 : Ct 112 #[.int .i64 w, .int .u64 x] (.tuple #[.int .i64 a, .bool false])) (H2 : Ct 112 #[.int .i64 w, .int .u64 y] (.tuple #[.int .i64 b, .bool t])) :
    Calls Tryz.prog 69 #[.int .i64 w, .int .u64 x, .int .u64 y, v] W fun r W' => r = .returned (.bool false) ∧ Below W.heap.size W W' := by
  go_enter Tryz.func69, Tryz.ntmps69
  go_wp2_with fail
  refine (unhide H1 _).mono ?_
  rintro _ w1 ⟨rfl, hb⟩
  have HB := hide hb
  clear hb
  go_wp2_with fail
  refine (unhide H2 _).mono ?_
  rintro _ w2 ⟨rfl, hb⟩
  have HB := hide (bthen (unhide HB) hb)
  clear hb
  go_wp2_with fail
  go_ret
  exact ⟨rfl, unhide HB⟩
set_option maxRecDepth 100000 in
set_option maxHeartbeats 2000000 in
theorem ask_f2 {w x y a b : Int} {v : Value} (W : World) (H1 : Ct 112 #[.int .i64 w, .int .u64 x] (.tuple #[.int .i64 a, .bool true])) (H2 : Ct 112 #[.int .i64 w, .int .u64 y] (.tuple #[.int .i64 b, .bool false])) :
    Calls Tryz.prog 69 #[.int .i64 w, .int .u64 x, .int .u64 y, v] W fun r W' => r = .returned (.bool false) ∧ Below W.heap.size W W' := by
  go_enter Tryz.func69, Tryz.ntmps69
  go_wp2_with fail
  refine (unhide H1 _).mono ?_
  rintro _ w1 ⟨rfl, hb⟩
  have HB := hide hb
  clear hb
  go_wp2_with fail
  refine (unhide H2 _).mono ?_
  rintro _ w2 ⟨rfl, hb⟩
  have HB := hide (bthen (unhide HB) hb)
  clear hb
  go_wp2_with fail
  go_ret
  exact ⟨rfl, unhide HB⟩
set_option maxRecDepth 100000 in
set_option maxHeartbeats 2000000 in
theorem eq_l {w x y : Int} {t : Bool} (W : World) (H : Ct 69 #[.int .i64 w, .int .u64 x, .int .u64 y, .func (.func 70) #[] #[]] (.bool t)) :
    Calls Tryz.prog 28 #[.int .i64 w, .int .u64 x, .int .u64 y] W fun r W' => r = .returned (.bool t) ∧ Below W.heap.size W W' := by
  go_enter Tryz.func28, Tryz.ntmps28
  go_wp2_with fail
  refine (unhide H _).mono ?_
  rintro _ w1 ⟨rfl, hb⟩
  have HB := hide hb
  clear hb
  go_wp2_with fail
  go_ret
  exact ⟨rfl, unhide HB⟩
set_option maxRecDepth 100000 in
set_option maxHeartbeats 2000000 in
theorem lt_l {w x y : Int} {t : Bool} (W : World) (H : Ct 69 #[.int .i64 w, .int .u64 x, .int .u64 y, .func (.func 72) #[] #[]] (.bool t)) :
    Calls Tryz.prog 30 #[.int .i64 w, .int .u64 x, .int .u64 y] W fun r W' => r = .returned (.bool t) ∧ Below W.heap.size W W' := by
  go_enter Tryz.func30, Tryz.ntmps30
  go_wp2_with fail
  refine (unhide H _).mono ?_
  rintro _ w1 ⟨rfl, hb⟩
  have HB := hide hb
  clear hb
  go_wp2_with fail
  go_ret
  exact ⟨rfl, unhide HB⟩
set_option maxRecDepth 100000 in
set_option maxHeartbeats 2000000 in
theorem gt_l {w x y : Int} {t : Bool} (W : World) (H : Ct 69 #[.int .i64 w, .int .u64 x, .int .u64 y, .func (.func 73) #[] #[]] (.bool t)) :
    Calls Tryz.prog 31 #[.int .i64 w, .int .u64 x, .int .u64 y] W fun r W' => r = .returned (.bool t) ∧ Below W.heap.size W W' := by
  go_enter Tryz.func31, Tryz.ntmps31
  go_wp2_with fail
  refine (unhide H _).mono ?_
  rintro _ w1 ⟨rfl, hb⟩
  have HB := hide hb
  clear hb
  go_wp2_with fail
  go_ret
  exact ⟨rfl, unhide HB⟩
end Go.Proofs.YtpbgpdmffejdgabGreatDoor
namespace Go.Proofs.YtpbgpdmffejdgabGreatDoor
open Go.RowKit
open Go.Proofs.YtpbgpdmffejdgabGreatDoor.W

set_option maxRecDepth 100000 in
set_option maxHeartbeats 2000000 in
theorem or_c {x y z : Int} (W : World) (h : bits .or .u64 x y = z) :
    Calls Tryz.prog 106 #[.int .u64 x, .int .u64 y] W fun r W' => r = .returned (.int .u64 z) ∧ Below W.heap.size W W' := by
  go_enter Tryz.func106, Tryz.ntmps106
  go_wp2_with fail
  go_ret
  exact ⟨rfl, Below.refl _ _⟩
set_option maxRecDepth 100000 in
set_option maxHeartbeats 2000000 in
theorem and_c {x y z : Int} (W : World) (h : bits .and .u64 x y = z) :
    Calls Tryz.prog 107 #[.int .u64 x, .int .u64 y] W fun r W' => r = .returned (.int .u64 z) ∧ Below W.heap.size W W' := by
  go_enter Tryz.func107, Tryz.ntmps107
  go_wp2_with fail
  go_ret
  exact ⟨rfl, Below.refl _ _⟩
set_option maxRecDepth 100000 in
set_option maxHeartbeats 2000000 in
theorem pick_min_a {w x y V : Int} (W : World) (H1 : Ct 30 #[.int .i64 w, .int .u64 x, .int .u64 y] (.bool true)) (HC : Ct 11 #[.int .i64 w, .int .u64 x] (.int .u64 V)) :
    Calls Tryz.prog 105 #[.int .i64 w, .int .u64 x, .int .u64 y, .func (.func 30) #[] #[], .func (.func 106) #[] #[]] W fun r W' => r = .returned (.int .u64 V) ∧ Below W.heap.size W W' := by
  go_enter Tryz.func105, Tryz.ntmps105
  go_wp2_with fail
  refine (unhide H1 _).mono ?_
  rintro _ w1 ⟨rfl, hb⟩
  have HB := hide hb
  clear hb
  go_wp2_with fail
  refine (unhide HC _).mono ?_
  rintro _ w2 ⟨rfl, hb⟩
  have HB := hide (bthen (unhide HB) hb)
  clear hb
  go_wp2_with fail
  go_ret
  exact ⟨rfl, unhide HB⟩
set_option maxRecDepth 100000 in
set_option maxHeartbeats 2000000 in
theorem pick_min_b {w x y V : Int} (W : World) (H1 : Ct 30 #[.int .i64 w, .int .u64 x, .int .u64 y] (.bool false)) (H2 : Ct 30 #[.int .i64 w, .int .u64 y, .int .u64 x] (.bool true)) (HC : Ct 11 #[.int .i64 w, .int .u64 y] (.int .u64 V)) :
    Calls Tryz.prog 105 #[.int .i64 w, .int .u64 x, .int .u64 y, .func (.func 30) #[] #[], .func (.func 106) #[] #[]] W fun r W' => r = .returned (.int .u64 V) ∧ Below W.heap.size W W' := by
  go_enter Tryz.func105, Tryz.ntmps105
  go_wp2_with fail
  refine (unhide H1 _).mono ?_
  rintro _ w1 ⟨rfl, hb⟩
  have HB := hide hb
  clear hb
  go_wp2_with fail
  refine (unhide H2 _).mono ?_
  rintro _ w2 ⟨rfl, hb⟩
  have HB := hide (bthen (unhide HB) hb)
  clear hb
  go_wp2_with fail
  refine (unhide HC _).mono ?_
  rintro _ w3 ⟨rfl, hb⟩
  have HB := hide (bthen (unhide HB) hb)
  clear hb
  go_wp2_with fail
  go_ret
  exact ⟨rfl, unhide HB⟩
set_option maxRecDepth 100000 in
set_option maxHeartbeats 2000000 in
theorem pick_min_e {w x y z V : Int} (W : World) (H1 : Ct 30 #[.int .i64 w, .int .u64 x, .int .u64 y] (.bool false)) (H2 : Ct 30 #[.int .i64 w, .int .u64 y, .int .u64 x] (.bool false)) (H3 : Ct 28 #[.int .i64 w, .int .u64 x, .int .u64 y] (.bool true)) (HO : Ct 106 #[.int .u64 x, .int .u64 y] (.int .u64 z)) (HC : Ct 11 #[.int .i64 w, .int .u64 z] (.int .u64 V)) :
    Calls Tryz.prog 105 #[.int .i64 w, .int .u64 x, .int .u64 y, .func (.func 30) #[] #[], .func (.func 106) #[] #[]] W fun r W' => r = .returned (.int .u64 V) ∧ Below W.heap.size W W' := by
  go_enter Tryz.func105, Tryz.ntmps105
  go_wp2_with fail
  refine (unhide H1 _).mono ?_
  rintro _ w1 ⟨rfl, hb⟩
  have HB := hide hb
  clear hb
  go_wp2_with fail
  refine (unhide H2 _).mono ?_
  rintro _ w2 ⟨rfl, hb⟩
  have HB := hide (bthen (unhide HB) hb)
  clear hb
  go_wp2_with fail
  refine (unhide H3 _).mono ?_
  rintro _ w3 ⟨rfl, hb⟩
  have HB := hide (bthen (unhide HB) hb)
  clear hb
  go_wp2_with fail
  refine (unhide HO _).mono ?_
  rintro _ w4 ⟨rfl, hb⟩
  have HB := hide (bthen (unhide HB) hb)
  clear hb
  go_wp2_with fail
  refine (unhide HC _).mono ?_
  rintro _ w5 ⟨rfl, hb⟩
  have HB := hide (bthen (unhide HB) hb)
  clear hb
  go_wp2_with fail
  go_ret
  exact ⟨rfl, unhide HB⟩
set_option maxRecDepth 100000 in
set_option maxHeartbeats 2000000 in
theorem pick_min_n {w x y V : Int} (W : World) (H1 : Ct 30 #[.int .i64 w, .int .u64 x, .int .u64 y] (.bool false)) (H2 : Ct 30 #[.int .i64 w, .int .u64 y, .int .u64 x] (.bool false)) (H3 : Ct 28 #[.int .i64 w, .int .u64 x, .int .u64 y] (.bool false)) (HN : Ct 7 #[.int .i64 w] (.int .u64 V)) :
    Calls Tryz.prog 105 #[.int .i64 w, .int .u64 x, .int .u64 y, .func (.func 30) #[] #[], .func (.func 106) #[] #[]] W fun r W' => r = .returned (.int .u64 V) ∧ Below W.heap.size W W' := by
  go_enter Tryz.func105, Tryz.ntmps105
  go_wp2_with fail
  refine (unhide H1 _).mono ?_
  rintro _ w1 ⟨rfl, hb⟩
  have HB := hide hb
  clear hb
  go_wp2_with fail
  refine (unhide H2 _).mono ?_
  rintro _ w2 ⟨rfl, hb⟩
  have HB := hide (bthen (unhide HB) hb)
  clear hb
  go_wp2_with fail
  refine (unhide H3 _).mono ?_
  rintro _ w3 ⟨rfl, hb⟩
  have HB := hide (bthen (unhide HB) hb)
  clear hb
  go_wp2_with fail
  refine (unhide HN _).mono ?_
  rintro _ w4 ⟨rfl, hb⟩
  have HB := hide (bthen (unhide HB) hb)
  clear hb
  go_wp2_with fail
  go_ret
  exact ⟨rfl, unhide HB⟩
set_option maxRecDepth 100000 in
set_option maxHeartbeats 2000000 in
theorem min_l {w x y V : Int} (W : World) (H : Ct 105 #[.int .i64 w, .int .u64 x, .int .u64 y, .func (.func 30) #[] #[], .func (.func 106) #[] #[]] (.int .u64 V)) :
    Calls Tryz.prog 51 #[.int .i64 w, .int .u64 x, .int .u64 y] W fun r W' => r = .returned (.int .u64 V) ∧ Below W.heap.size W W' := by
  go_enter Tryz.func51, Tryz.ntmps51
  go_wp2_with fail
  refine (unhide H _).mono ?_
  rintro _ w1 ⟨rfl, hb⟩
  have HB := hide hb
  clear hb
  go_wp2_with fail
  go_ret
  exact ⟨rfl, unhide HB⟩
set_option maxRecDepth 100000 in
set_option maxHeartbeats 2000000 in
theorem pick_max_a {w x y V : Int} (W : World) (H1 : Ct 31 #[.int .i64 w, .int .u64 x, .int .u64 y] (.bool true)) (HC : Ct 11 #[.int .i64 w, .int .u64 x] (.int .u64 V)) :
    Calls Tryz.prog 105 #[.int .i64 w, .int .u64 x, .int .u64 y, .func (.func 31) #[] #[], .func (.func 107) #[] #[]] W fun r W' => r = .returned (.int .u64 V) ∧ Below W.heap.size W W' := by
  go_enter Tryz.func105, Tryz.ntmps105
  go_wp2_with fail
  refine (unhide H1 _).mono ?_
  rintro _ w1 ⟨rfl, hb⟩
  have HB := hide hb
  clear hb
  go_wp2_with fail
  refine (unhide HC _).mono ?_
  rintro _ w2 ⟨rfl, hb⟩
  have HB := hide (bthen (unhide HB) hb)
  clear hb
  go_wp2_with fail
  go_ret
  exact ⟨rfl, unhide HB⟩
set_option maxRecDepth 100000 in
set_option maxHeartbeats 2000000 in
theorem pick_max_b {w x y V : Int} (W : World) (H1 : Ct 31 #[.int .i64 w, .int .u64 x, .int .u64 y] (.bool false)) (H2 : Ct 31 #[.int .i64 w, .int .u64 y, .int .u64 x] (.bool true)) (HC : Ct 11 #[.int .i64 w, .int .u64 y] (.int .u64 V)) :
    Calls Tryz.prog 105 #[.int .i64 w, .int .u64 x, .int .u64 y, .func (.func 31) #[] #[], .func (.func 107) #[] #[]] W fun r W' => r = .returned (.int .u64 V) ∧ Below W.heap.size W W' := by
  go_enter Tryz.func105, Tryz.ntmps105
  go_wp2_with fail
  refine (unhide H1 _).mono ?_
  rintro _ w1 ⟨rfl, hb⟩
  have HB := hide hb
  clear hb
  go_wp2_with fail
  refine (unhide H2 _).mono ?_
  rintro _ w2 ⟨rfl, hb⟩
  have HB := hide (bthen (unhide HB) hb)
  clear hb
  go_wp2_with fail
  refine (unhide HC _).mono ?_
  rintro _ w3 ⟨rfl, hb⟩
  have HB := hide (bthen (unhide HB) hb)
  clear hb
  go_wp2_with fail
  go_ret
  exact ⟨rfl, unhide HB⟩
set_option maxRecDepth 100000 in
set_option maxHeartbeats 2000000 in
theorem pick_max_e {w x y z V : Int} (W : World) (H1 : Ct 31 #[.int .i64 w, .int .u64 x, .int .u64 y] (.bool false)) (H2 : Ct 31 #[.int .i64 w, .int .u64 y, .int .u64 x] (.bool false)) (H3 : Ct 28 #[.int .i64 w, .int .u64 x, .int .u64 y] (.bool true)) (HO : Ct 107 #[.int .u64 x, .int .u64 y] (.int .u64 z)) (HC : Ct 11 #[.int .i64 w, .int .u64 z] (.int .u64 V)) :
    Calls Tryz.prog 105 #[.int .i64 w, .int .u64 x, .int .u64 y, .func (.func 31) #[] #[], .func (.func 107) #[] #[]] W fun r W' => r = .returned (.int .u64 V) ∧ Below W.heap.size W W' := by
  go_enter Tryz.func105, Tryz.ntmps105
  go_wp2_with fail
  refine (unhide H1 _).mono ?_
  rintro _ w1 ⟨rfl, hb⟩
  have HB := hide hb
  clear hb
  go_wp2_with fail
  refine (unhide H2 _).mono ?_
  rintro _ w2 ⟨rfl, hb⟩
  have HB := hide (bthen (unhide HB) hb)
  clear hb
  go_wp2_with fail
  refine (unhide H3 _).mono ?_
  rintro _ w3 ⟨rfl, hb⟩
  have HB := hide (bthen (unhide HB) hb)
  clear hb
  go_wp2_with fail
  refine (unhide HO _).mono ?_
  rintro _ w4 ⟨rfl, hb⟩
  have HB := hide (bthen (unhide HB) hb)
  clear hb
  go_wp2_with fail
  refine (unhide HC _).mono ?_
  rintro _ w5 ⟨rfl, hb⟩
  have HB := hide (bthen (unhide HB) hb)
  clear hb
  go_wp2_with fail
  go_ret
  exact ⟨rfl, unhide HB⟩
set_option maxRecDepth 100000 in
set_option maxHeartbeats 2000000 in
theorem pick_max_n {w x y V : Int} (W : World) (H1 : Ct 31 #[.int .i64 w, .int .u64 x, .int .u64 y] (.bool false)) (H2 : Ct 31 #[.int .i64 w, .int .u64 y, .int .u64 x] (.bool false)) (H3 : Ct 28 #[.int .i64 w, .int .u64 x, .int .u64 y] (.bool false)) (HN : Ct 7 #[.int .i64 w] (.int .u64 V)) :
    Calls Tryz.prog 105 #[.int .i64 w, .int .u64 x, .int .u64 y, .func (.func 31) #[] #[], .func (.func 107) #[] #[]] W fun r W' => r = .returned (.int .u64 V) ∧ Below W.heap.size W W' := by
  go_enter Tryz.func105, Tryz.ntmps105
  go_wp2_with fail
  refine (unhide H1 _).mono ?_
  rintro _ w1 ⟨rfl, hb⟩
  have HB := hide hb
  clear hb
  go_wp2_with fail
  refine (unhide H2 _).mono ?_
  rintro _ w2 ⟨rfl, hb⟩
  have HB := hide (bthen (unhide HB) hb)
  clear hb
  go_wp2_with fail
  refine (unhide H3 _).mono ?_
  rintro _ w3 ⟨rfl, hb⟩
  have HB := hide (bthen (unhide HB) hb)
  clear hb
  go_wp2_with fail
  refine (unhide HN _).mono ?_
  rintro _ w4 ⟨rfl, hb⟩
  have HB := hide (bthen (unhide HB) hb)
  clear hb
  go_wp2_with fail
  go_ret
  exact ⟨rfl, unhide HB⟩
set_option maxRecDepth 100000 in
set_option maxHeartbeats 2000000 in
theorem max_l {w x y V : Int} (W : World) (H : Ct 105 #[.int .i64 w, .int .u64 x, .int .u64 y, .func (.func 31) #[] #[], .func (.func 107) #[] #[]] (.int .u64 V)) :
    Calls Tryz.prog 52 #[.int .i64 w, .int .u64 x, .int .u64 y] W fun r W' => r = .returned (.int .u64 V) ∧ Below W.heap.size W W' := by
  go_enter Tryz.func52, Tryz.ntmps52
  go_wp2_with fail
  refine (unhide H _).mono ?_
  rintro _ w1 ⟨rfl, hb⟩
  have HB := hide hb
  clear hb
  go_wp2_with fail
  go_ret
  exact ⟨rfl, unhide HB⟩

end Go.Proofs.YtpbgpdmffejdgabGreatDoor
namespace Go.Proofs.YtpbgpdmffejdgabGreatDoor
open Go.RowKit
open Go.Proofs.YtpbgpdmffejdgabGreatDoor.W

/-- A float's code with its sign. -/
def sc (P Q x : Int) : Int := if oN P Q x then -(oc P Q x : Int) else (oc P Q x : Int)
/-- How two whole numbers are to each other. -/
def cmpS (a b : Int) : Int := if a < b then -1 else if a = b then 0 else 1
/-- How two floats are to each other. -/
def cmpB (P Q x y : Int) : Int := if oK P Q x = 3 ∨ oK P Q y = 3 then 2 else cmpS (sc P Q x) (sc P Q y)
/-- The one of two that is wanted. -/
def pickB (f P Q t : Int) (n : Bool) (x y : Int) : Int := if cmpB P Q x y = 2 then nanB f P Q else if cmpB P Q x y = t ∨ (cmpB P Q x y = 0 ∧ sg P Q x = n) then cutN f P Q x else cutN f P Q y

theorem oK_nan (P Q x : Int) : (x / P % Q == Q - 1 && x % P != 0) = true ↔ oK P Q x = 3 := by
  unfold oK
  by_cases h : x / P % Q = Q - 1
  · rw [if_pos h, eq_t h]
    by_cases h2 : x % P = 0
    · rw [if_pos h2, ne_f h2]; simp
    · rw [if_neg h2, ne_t h2]; simp
  · rw [if_neg h, eq_f h]
    simp
    split <;> omega
theorem nan_t {P Q x : Int} (h : oK P Q x = 3) : (x / P % Q == Q - 1 && x % P != 0) = true := (oK_nan P Q x).2 h
theorem nan_f {P Q x : Int} (h : oK P Q x ≠ 3) : (x / P % Q == Q - 1 && x % P != 0) = false := by
  cases hh : (x / P % Q == Q - 1 && x % P != 0)
  · rfl
  · exact absurd ((oK_nan P Q x).1 hh) h
theorem oN_sg {P Q x : Int} (h : oK P Q x ≠ 3) : oN P Q x = sg P Q x := by
  unfold oN
  rw [if_neg]
  intro hh
  apply h
  unfold oK
  rw [if_pos hh.1, if_neg hh.2]

theorem sign_bit {k a : Nat} (ha : a < 2 ^ (k + 1)) : a &&& 2 ^ k = 0 ↔ a < 2 ^ k := by
  constructor
  · intro h
    refine Decidable.byContradiction fun hn => ?_
    obtain ⟨r, rfl⟩ : ∃ r, a = 2 ^ k + r := ⟨a - 2 ^ k, by omega⟩
    have hr : r < 2 ^ k := by rw [Nat.pow_succ] at ha; omega
    have h1 : ((2 ^ k + r) &&& 2 ^ k).testBit k = false := by rw [h]; exact Nat.zero_testBit k
    rw [Nat.testBit_and, Nat.testBit_two_pow_self, Nat.testBit_two_pow_add_eq, Nat.testBit_lt_two_pow hr] at h1
    exact absurd h1 (by decide)
  · intro h
    apply Nat.eq_of_testBit_eq
    intro i
    rw [Nat.testBit_and, Nat.zero_testBit, Nat.testBit_two_pow]
    by_cases hi : k = i
    · subst hi
      rw [Nat.testBit_lt_two_pow h]
      rfl
    · simp [hi]

/-- What Rank makes of the bits. -/
theorem rank_bits {w e f P Q b x : Int} (k : Kd w e f P Q b) (h : oK P Q x ≠ 3) :
    ∃ B, bits .andNot .u64 (cutN f P Q x) (put f P Q true 0 0) = (oc P Q x : Int) ∧ bits .and .u64 (cutN f P Q x) (put f P Q true 0 0) = B ∧ (B != 0) = oN P Q x ∧ (oc P Q x : Int) < 9223372036854775808 := by
  obtain ⟨p1, p2, q1, q2⟩ := k.pos
  obtain ⟨u, v⟩ := exp_in (x / P) (show 1 ≤ Q by omega)
  obtain ⟨u', v'⟩ := exp_in x (show 1 ≤ P by omega)
  have hn := oN_sg h
  have hc : ((oc P Q x : Nat) : Int) = x / P % Q * P + x % P := by
    unfold oc
    have := Int.mul_nonneg u (show 0 ≤ P by omega)
    omega
  have hcut := cut_put k.wd.sz x
  rw [← hcut, hn, put_yes k.f0, Int.zero_mul, Int.zero_add, Int.zero_add]
  rw [hn] at *
  clear hn hcut h
  generalize x / P % Q = E at *
  generalize x % P = F at *
  generalize sg P Q x = n at *
  generalize oc P Q x = c at *
  rcases k with ⟨-, -, rfl, rfl, rfl, -⟩ | ⟨-, -, rfl, rfl, rfl, -⟩
  · have hput : put 23 8388608 256 n E F = ((c + (if n then 2147483648 else 0) : Nat) : Int) := by
      unfold put
      cases n <;> simp <;> omega
    have hc2 : c < 2147483648 := by omega
    have ha : c + (if n then 2147483648 else 0) < 2 ^ 32 := by cases n <;> simp <;> omega
    rw [hput, show (8388608 * 256 : Int) = ((2147483648 : Nat) : Int) by decide]
    refine ⟨_, ?_, rfl, ?_, by omega⟩
    · rw [u64_andNot_nat _ _ (by omega) (by decide)]
      generalize hA : c + (if n then 2147483648 else 0) = a at *
      have e1 : a &&& 4294967295 = a := by
        rw [show 4294967295 = 2 ^ 32 - 1 by decide, Nat.and_two_pow_sub_one_eq_mod, Nat.mod_eq_of_lt ha]
      rw [← e1, Nat.and_assoc, show 4294967295 &&& (18446744073709551615 - 2147483648) = 2 ^ 31 - 1 by decide, Nat.and_two_pow_sub_one_eq_mod]
      cases n <;> simp at hA <;> omega
    · rw [Go.bits_and_u64_nat _ _ (by omega) (by decide)]
      have := sign_bit (k := 31) (a := c + (if n then 2147483648 else 0)) ha
      generalize hA : c + (if n then 2147483648 else 0) = a at *
      rw [show 2147483648 = 2 ^ 31 by decide]
      cases n
      · have : a &&& 2 ^ 31 = 0 := this.2 (by simp at hA; omega)
        rw [this]; rfl
      · have : ¬ a &&& 2 ^ 31 = 0 := fun hh => by have := this.1 hh; simp at hA; omega
        exact ne_t (by omega)
  · have hput : put 52 4503599627370496 2048 n E F = ((c + (if n then 9223372036854775808 else 0) : Nat) : Int) := by
      unfold put
      cases n <;> simp <;> omega
    have hc2 : c < 9223372036854775808 := by omega
    have ha : c + (if n then 9223372036854775808 else 0) < 2 ^ 64 := by cases n <;> simp <;> omega
    rw [hput, show (4503599627370496 * 2048 : Int) = ((9223372036854775808 : Nat) : Int) by decide]
    refine ⟨_, ?_, rfl, ?_, by omega⟩
    · rw [u64_andNot_nat _ _ (by omega) (by decide)]
      generalize hA : c + (if n then 9223372036854775808 else 0) = a at *
      rw [show (18446744073709551615 - 9223372036854775808) = 2 ^ 63 - 1 by decide, Nat.and_two_pow_sub_one_eq_mod]
      cases n <;> simp at hA <;> omega
    · rw [Go.bits_and_u64_nat _ _ (by omega) (by decide)]
      have := sign_bit (k := 63) (a := c + (if n then 9223372036854775808 else 0)) ha
      generalize hA : c + (if n then 9223372036854775808 else 0) = a at *
      rw [show 9223372036854775808 = 2 ^ 63 by decide]
      cases n
      · have : a &&& 2 ^ 63 = 0 := this.2 (by simp at hA; omega)
        rw [this]; rfl
      · have : ¬ a &&& 2 ^ 63 = 0 := fun hh => by have := this.1 hh; simp at hA; omega
        exact ne_t (by omega)

theorem okn_any {w e f P Q b : Int} (h : Wd w e f P Q b) (W : World) : Calls Tryz.prog 71 #[.int .i64 w] W fun r W' => r = .returned (.bool (f != 0)) ∧ Below W.heap.size W W' := by
  have := okn_l W (hide (fun W => fields_any h W))
  have he : (e != 0) = (f != 0) := by
    rcases h with ⟨-, rfl, rfl, -⟩ | ⟨-, rfl, rfl, -⟩ | ⟨-, rfl, rfl, -⟩ <;> rfl
  rw [he] at this
  exact this
theorem okn_t {w e f P Q b : Int} (k : Kd w e f P Q b) (W : World) : Calls Tryz.prog 71 #[.int .i64 w] W fun r W' => r = .returned (.bool true) ∧ Below W.heap.size W W' := by
  have := okn_any k.wd W
  rw [ne_t k.f0] at this
  exact this
theorem rank_nan {w e f P Q b x : Int} (k : Kd w e f P Q b) (W : World) (x0 : 0 ≤ x) (x1 : x < 18446744073709551616) (h : oK P Q x = 3) : Calls Tryz.prog 112 #[.int .i64 w, .int .u64 x] W fun r W' => r = .returned (.tuple #[.int .i64 0, .bool false]) ∧ Below W.heap.size W W' := by
  have hi := fun W => isNanW_any x k.wd W x0 x1
  rw [nan_t h] at hi
  exact rank_n W (hide (okn_t k)) (hide hi)
theorem rank_any {w e f P Q b x : Int} (k : Kd w e f P Q b) (W : World) (x0 : 0 ≤ x) (x1 : x < 18446744073709551616) (h : oK P Q x ≠ 3) : Calls Tryz.prog 112 #[.int .i64 w, .int .u64 x] W fun r W' => r = .returned (.tuple #[.int .i64 (sc P Q x), .bool true]) ∧ Below W.heap.size W W' := by
  have hi := fun W => isNanW_any x k.wd W x0 x1
  rw [nan_f h] at hi
  obtain ⟨B, r1, r2, r3, r4⟩ := rank_bits k h
  unfold sc
  cases hn : oN P Q x
  · rw [hn] at r3
    exact rank_p W (hide (okn_t k)) (hide hi) (hide (fun W => zero_any true k.wd W)) (hide (fun W => cut_any x k.wd W x0 x1)) r1 (i64_id (by omega) (by omega)) r2 r3
  · rw [hn] at r3
    exact rank_m W (hide (okn_t k)) (hide hi) (hide (fun W => zero_any true k.wd W)) (hide (fun W => cut_any x k.wd W x0 x1)) r1 (i64_id (by omega) (by omega)) r2 r3 (i64_id (by omega) (by omega))

theorem cmpS_eq (a b : Int) : (a == b) = (cmpS a b == 0) := by
  unfold cmpS
  rcases Int.lt_trichotomy a b with h | h | h
  · rw [if_pos h, eq_f (by omega)]; rfl
  · rw [if_neg (by omega), if_pos h, eq_t h]; rfl
  · rw [if_neg (by omega), if_neg (by omega), eq_f (by omega)]; rfl
theorem cmpS_lt (a b : Int) : decide (a < b) = (cmpS a b == -1) := by
  unfold cmpS
  rcases Int.lt_trichotomy a b with h | h | h
  · rw [if_pos h, decide_eq_true h]; rfl
  · rw [if_neg (by omega), if_pos h, decide_eq_false (by omega)]; rfl
  · rw [if_neg (by omega), if_neg (by omega), decide_eq_false (by omega)]; rfl
theorem cmpS_gt (a b : Int) : decide (b < a) = (cmpS a b == 1) := by
  unfold cmpS
  rcases Int.lt_trichotomy a b with h | h | h
  · rw [if_pos h, decide_eq_false (by omega)]; rfl
  · rw [if_neg (by omega), if_pos h, decide_eq_false (by omega)]; rfl
  · rw [if_neg (by omega), if_neg (by omega), decide_eq_true h]; rfl
theorem eq_any {w e f P Q b x y : Int} (k : Kd w e f P Q b) (W : World) (x0 : 0 ≤ x) (x1 : x < 18446744073709551616) (y0 : 0 ≤ y) (y1 : y < 18446744073709551616) : Calls Tryz.prog 28 #[.int .i64 w, .int .u64 x, .int .u64 y] W fun r W' => r = .returned (.bool (cmpB P Q x y == 0)) ∧ Below W.heap.size W W' := by
  unfold cmpB
  by_cases hx : oK P Q x = 3
  · rw [if_pos (Or.inl hx)]
    by_cases hy : oK P Q y = 3
    · exact eq_l W (hide (fun W => ask_f1 W (hide (fun W => rank_nan k W x0 x1 hx)) (hide (fun W => rank_nan k W y0 y1 hy))))
    · exact eq_l W (hide (fun W => ask_f1 W (hide (fun W => rank_nan k W x0 x1 hx)) (hide (fun W => rank_any k W y0 y1 hy))))
  · by_cases hy : oK P Q y = 3
    · rw [if_pos (Or.inr hy)]
      exact eq_l W (hide (fun W => ask_f2 W (hide (fun W => rank_any k W x0 x1 hx)) (hide (fun W => rank_nan k W y0 y1 hy))))
    · rw [if_neg (by omega), ← cmpS_eq]
      exact eq_l W (hide (fun W => ask_t_eq W (hide (fun W => rank_any k W x0 x1 hx)) (hide (fun W => rank_any k W y0 y1 hy)) (hide (fun W => eq_c W))))
theorem lt_any {w e f P Q b x y : Int} (k : Kd w e f P Q b) (W : World) (x0 : 0 ≤ x) (x1 : x < 18446744073709551616) (y0 : 0 ≤ y) (y1 : y < 18446744073709551616) : Calls Tryz.prog 30 #[.int .i64 w, .int .u64 x, .int .u64 y] W fun r W' => r = .returned (.bool (cmpB P Q x y == -1)) ∧ Below W.heap.size W W' := by
  unfold cmpB
  by_cases hx : oK P Q x = 3
  · rw [if_pos (Or.inl hx)]
    by_cases hy : oK P Q y = 3
    · exact lt_l W (hide (fun W => ask_f1 W (hide (fun W => rank_nan k W x0 x1 hx)) (hide (fun W => rank_nan k W y0 y1 hy))))
    · exact lt_l W (hide (fun W => ask_f1 W (hide (fun W => rank_nan k W x0 x1 hx)) (hide (fun W => rank_any k W y0 y1 hy))))
  · by_cases hy : oK P Q y = 3
    · rw [if_pos (Or.inr hy)]
      exact lt_l W (hide (fun W => ask_f2 W (hide (fun W => rank_any k W x0 x1 hx)) (hide (fun W => rank_nan k W y0 y1 hy))))
    · rw [if_neg (by omega), ← cmpS_lt]
      exact lt_l W (hide (fun W => ask_t_lt W (hide (fun W => rank_any k W x0 x1 hx)) (hide (fun W => rank_any k W y0 y1 hy)) (hide (fun W => lt_c W))))
theorem gt_any {w e f P Q b x y : Int} (k : Kd w e f P Q b) (W : World) (x0 : 0 ≤ x) (x1 : x < 18446744073709551616) (y0 : 0 ≤ y) (y1 : y < 18446744073709551616) : Calls Tryz.prog 31 #[.int .i64 w, .int .u64 x, .int .u64 y] W fun r W' => r = .returned (.bool (cmpB P Q x y == 1)) ∧ Below W.heap.size W W' := by
  unfold cmpB
  by_cases hx : oK P Q x = 3
  · rw [if_pos (Or.inl hx)]
    by_cases hy : oK P Q y = 3
    · exact gt_l W (hide (fun W => ask_f1 W (hide (fun W => rank_nan k W x0 x1 hx)) (hide (fun W => rank_nan k W y0 y1 hy))))
    · exact gt_l W (hide (fun W => ask_f1 W (hide (fun W => rank_nan k W x0 x1 hx)) (hide (fun W => rank_any k W y0 y1 hy))))
  · by_cases hy : oK P Q y = 3
    · rw [if_pos (Or.inr hy)]
      exact gt_l W (hide (fun W => ask_f2 W (hide (fun W => rank_any k W x0 x1 hx)) (hide (fun W => rank_nan k W y0 y1 hy))))
    · rw [if_neg (by omega), ← cmpS_gt]
      exact gt_l W (hide (fun W => ask_t_gt W (hide (fun W => rank_any k W x0 x1 hx)) (hide (fun W => rank_any k W y0 y1 hy)) (hide (fun W => gt_c W))))
end Go.Proofs.YtpbgpdmffejdgabGreatDoor
namespace Go.Proofs.YtpbgpdmffejdgabGreatDoor
open Go.RowKit
open Go.Proofs.YtpbgpdmffejdgabGreatDoor.W

theorem cmpS_swap (a b : Int) : cmpS b a = -cmpS a b := by
  unfold cmpS
  rcases Int.lt_trichotomy a b with h | h | h
  · rw [if_pos h, if_neg (by omega), if_neg (by omega)]; rfl
  · subst h; rw [if_neg (by omega), if_pos rfl]; rfl
  · rw [if_pos h, if_neg (by omega), if_neg (by omega)]
theorem cmpS_in (a b : Int) : cmpS a b = -1 ∧ a < b ∨ cmpS a b = 0 ∧ a = b ∨ cmpS a b = 1 ∧ b < a := by
  unfold cmpS
  rcases Int.lt_trichotomy a b with h | h | h
  · rw [if_pos h]; exact Or.inl ⟨rfl, h⟩
  · rw [if_neg (by omega), if_pos h]; exact Or.inr (Or.inl ⟨rfl, h⟩)
  · rw [if_neg (by omega), if_neg (by omega)]; exact Or.inr (Or.inr ⟨rfl, h⟩)
theorem cmpB_num {P Q x y : Int} (hx : oK P Q x ≠ 3) (hy : oK P Q y ≠ 3) : cmpB P Q x y = cmpS (sc P Q x) (sc P Q y) := by
  unfold cmpB
  rw [if_neg (by omega)]
theorem cmpB_nan {P Q x y : Int} (h : oK P Q x = 3 ∨ oK P Q y = 3) : cmpB P Q x y = 2 := by
  unfold cmpB
  rw [if_pos h]
theorem cmpB_ways (P Q x y : Int) : cmpB P Q x y = 2 ∧ cmpB P Q y x = 2 ∧ (oK P Q x = 3 ∨ oK P Q y = 3) ∨ oK P Q x ≠ 3 ∧ oK P Q y ≠ 3 ∧ (cmpB P Q x y = -1 ∧ cmpB P Q y x = 1 ∧ sc P Q x < sc P Q y ∨ cmpB P Q x y = 0 ∧ cmpB P Q y x = 0 ∧ sc P Q x = sc P Q y ∨ cmpB P Q x y = 1 ∧ cmpB P Q y x = -1 ∧ sc P Q y < sc P Q x) := by
  by_cases hx : oK P Q x = 3
  · exact Or.inl ⟨cmpB_nan (Or.inl hx), cmpB_nan (Or.inr hx), Or.inl hx⟩
  · by_cases hy : oK P Q y = 3
    · exact Or.inl ⟨cmpB_nan (Or.inr hy), cmpB_nan (Or.inl hy), Or.inr hy⟩
    · refine Or.inr ⟨hx, hy, ?_⟩
      rw [cmpB_num hx hy, cmpB_num hy hx]
      have := cmpS_swap (sc P Q x) (sc P Q y)
      have := cmpS_in (sc P Q x) (sc P Q y)
      omega

/-- Two floats that are the same number are the same bits, or noughts. -/
theorem same_bits {w e f P Q b x y : Int} (k : Kd w e f P Q b) (hx : oK P Q x ≠ 3) (hy : oK P Q y ≠ 3) (h : sc P Q x = sc P Q y) :
    sg P Q x = sg P Q y ∧ cutN f P Q x = cutN f P Q y ∨ sg P Q x = true ∧ sg P Q y = false ∧ cutN f P Q x = P * Q ∧ cutN f P Q y = 0 ∨ sg P Q x = false ∧ sg P Q y = true ∧ cutN f P Q x = 0 ∧ cutN f P Q y = P * Q := by
  obtain ⟨p1, p2, q1, q2⟩ := k.pos
  have z : ∀ n : Bool, fl f P Q n ((0 : Nat) : Int) = if n then P * Q else 0 := by
    intro n
    unfold fl put
    rw [if_neg k.f0]
    cases n <;> simp
  rw [cut_fl k hx, cut_fl k hy, ← oN_sg hx, ← oN_sg hy]
  unfold sc at h
  cases hn : oN P Q x <;> cases hm : oN P Q y <;> rw [hn, hm] at h <;> simp at h
  · left; rw [h]; exact ⟨rfl, rfl⟩
  · right; right
    have h1 : oc P Q x = 0 := by omega
    have h2 : oc P Q y = 0 := by omega
    rw [h1, h2, z, z]
    exact ⟨rfl, rfl, rfl, rfl⟩
  · right; left
    have h1 : oc P Q x = 0 := by omega
    have h2 : oc P Q y = 0 := by omega
    rw [h1, h2, z, z]
    exact ⟨rfl, rfl, rfl, rfl⟩
  · left; rw [h]; exact ⟨rfl, rfl⟩

theorem cutN_mod {w e f P Q b : Int} (k : Kd w e f P Q b) : ∃ m : Nat, P * Q = ((2 ^ m : Nat) : Int) ∧ ∀ X : Nat, cutN f P Q (X : Int) = ((X % 2 ^ (m + 1) : Nat) : Int) := by
  rcases k with ⟨-, -, rfl, rfl, rfl, -⟩ | ⟨-, -, rfl, rfl, rfl, -⟩
  · refine ⟨31, by decide, fun X => ?_⟩
    show (if (23 : Int) = 0 then 0 else (X : Int) % 4294967296) = ((X % 4294967296 : Nat) : Int)
    rw [if_neg (by decide)]
    omega
  · refine ⟨63, by decide, fun X => ?_⟩
    show (if (52 : Int) = 0 then 0 else (X : Int) % 18446744073709551616) = ((X % 18446744073709551616 : Nat) : Int)
    rw [if_neg (by decide)]
    omega
/-- Of the same number's bits the ones that are in one of them, and in both. -/
theorem or_and_bits {w e f P Q b x y : Int} (k : Kd w e f P Q b) (x0 : 0 ≤ x) (x1 : x < 18446744073709551616) (y0 : 0 ≤ y) (y1 : y < 18446744073709551616) (hx : oK P Q x ≠ 3) (hy : oK P Q y ≠ 3) (h : sc P Q x = sc P Q y) :
    ∃ u v, bits .or .u64 x y = u ∧ bits .and .u64 x y = v ∧ 0 ≤ u ∧ u < 18446744073709551616 ∧ 0 ≤ v ∧ v < 18446744073709551616 ∧ cutN f P Q u = (if sg P Q x = true then cutN f P Q x else cutN f P Q y) ∧ cutN f P Q v = (if sg P Q x = false then cutN f P Q x else cutN f P Q y) := by
  have hs := same_bits k hx hy h
  obtain ⟨m, hm, hc⟩ := cutN_mod k
  clear h hx hy
  obtain ⟨X, rfl⟩ := Int.eq_ofNat_of_zero_le x0
  obtain ⟨Y, rfl⟩ := Int.eq_ofNat_of_zero_le y0
  have hX : X < 2 ^ 64 := by omega
  have hY : Y < 2 ^ 64 := by omega
  have ho : X ||| Y < 2 ^ 64 := Nat.or_lt_two_pow hX hY
  have ha : X &&& Y < 2 ^ 64 := Nat.and_lt_two_pow _ hY
  refine ⟨_, _, Go.bits_or_u64_nat X Y (by omega) (by omega), Go.bits_and_u64_nat X Y (by omega) (by omega), by omega, by omega, by omega, by omega, ?_, ?_⟩
  all_goals
    rw [hc, hc, hc] at *
    first | rw [Nat.or_mod_two_pow] | rw [Nat.and_mod_two_pow]
    generalize X % 2 ^ (m + 1) = A at *
    generalize Y % 2 ^ (m + 1) = B at *
    rw [hm] at hs
    rcases hs with ⟨h1, h2⟩ | ⟨h1, h2, h3, h4⟩ | ⟨h1, h2, h3, h4⟩
    · have : A = B := by omega
      subst this
      first | rw [Nat.or_self] | rw [Nat.and_self]
      split <;> rfl
    · have e1 : A = 2 ^ m := by omega
      have e2 : B = 0 := by omega
      rw [h1, e1, e2]
      simp
    · have e1 : A = 0 := by omega
      have e2 : B = 2 ^ m := by omega
      rw [h1, e1, e2]
      simp

theorem min_any {w e f P Q b x y : Int} (k : Kd w e f P Q b) (W : World) (x0 : 0 ≤ x) (x1 : x < 18446744073709551616) (y0 : 0 ≤ y) (y1 : y < 18446744073709551616) : Calls Tryz.prog 51 #[.int .i64 w, .int .u64 x, .int .u64 y] W fun r W' => r = .returned (.int .u64 (pickB f P Q (-1) true x y)) ∧ Below W.heap.size W W' := by
  have HL := fun W => lt_any k W x0 x1 y0 y1
  have HM := fun W => lt_any k W y0 y1 x0 x1
  have HE := fun W => eq_any k W x0 x1 y0 y1
  unfold pickB
  rcases cmpB_ways P Q x y with ⟨e1, e2, -⟩ | ⟨hx, hy, h⟩
  · rw [e1] at HL HE
    rw [e2] at HM
    rw [if_pos e1]
    exact min_l W (hide (fun W => pick_min_n W (hide HL) (hide HM) (hide HE) (hide (fun W => nan_any k.wd W))))
  · rcases h with ⟨e1, e2, h⟩ | ⟨e1, e2, h⟩ | ⟨e1, e2, h⟩ <;> rw [e1] at HL HE <;> rw [e2] at HM <;> rw [e1]
    · rw [if_neg (by omega), if_pos (Or.inl (by omega))]
      exact min_l W (hide (fun W => pick_min_a W (hide HL) (hide (fun W => cut_any x k.wd W x0 x1))))
    · obtain ⟨u, v, hu, hv, u0, u1, v0, v1, cu, cv⟩ := or_and_bits k x0 x1 y0 y1 hx hy h
      have e : (if (0 : Int) = 2 then nanB f P Q else if (0 : Int) = (-1) ∨ ((0 : Int) = 0 ∧ sg P Q x = true) then cutN f P Q x else cutN f P Q y) = cutN f P Q u := by
        rw [cu, if_neg (by omega)]
        cases sg P Q x <;> simp
      rw [e]
      exact min_l W (hide (fun W => pick_min_e W (hide HL) (hide HM) (hide HE) (hide (fun W => or_c W hu)) (hide (fun W => cut_any _ k.wd W u0 u1))))
    · rw [if_neg (by omega), if_neg (by omega)]
      exact min_l W (hide (fun W => pick_min_b W (hide HL) (hide HM) (hide (fun W => cut_any y k.wd W y0 y1))))
theorem max_any {w e f P Q b x y : Int} (k : Kd w e f P Q b) (W : World) (x0 : 0 ≤ x) (x1 : x < 18446744073709551616) (y0 : 0 ≤ y) (y1 : y < 18446744073709551616) : Calls Tryz.prog 52 #[.int .i64 w, .int .u64 x, .int .u64 y] W fun r W' => r = .returned (.int .u64 (pickB f P Q 1 false x y)) ∧ Below W.heap.size W W' := by
  have HL := fun W => gt_any k W x0 x1 y0 y1
  have HM := fun W => gt_any k W y0 y1 x0 x1
  have HE := fun W => eq_any k W x0 x1 y0 y1
  unfold pickB
  rcases cmpB_ways P Q x y with ⟨e1, e2, -⟩ | ⟨hx, hy, h⟩
  · rw [e1] at HL HE
    rw [e2] at HM
    rw [if_pos e1]
    exact max_l W (hide (fun W => pick_max_n W (hide HL) (hide HM) (hide HE) (hide (fun W => nan_any k.wd W))))
  · rcases h with ⟨e1, e2, h⟩ | ⟨e1, e2, h⟩ | ⟨e1, e2, h⟩ <;> rw [e1] at HL HE <;> rw [e2] at HM <;> rw [e1]
    · rw [if_neg (by omega), if_neg (by omega)]
      exact max_l W (hide (fun W => pick_max_b W (hide HL) (hide HM) (hide (fun W => cut_any y k.wd W y0 y1))))
    · obtain ⟨u, v, hu, hv, u0, u1, v0, v1, cu, cv⟩ := or_and_bits k x0 x1 y0 y1 hx hy h
      have e : (if (0 : Int) = 2 then nanB f P Q else if (0 : Int) = 1 ∨ ((0 : Int) = 0 ∧ sg P Q x = false) then cutN f P Q x else cutN f P Q y) = cutN f P Q v := by
        rw [cv, if_neg (by omega)]
        cases sg P Q x <;> simp
      rw [e]
      exact max_l W (hide (fun W => pick_max_e W (hide HL) (hide HM) (hide HE) (hide (fun W => and_c W hv)) (hide (fun W => cut_any _ k.wd W v0 v1))))
    · rw [if_neg (by omega), if_pos (Or.inl (by omega))]
      exact max_l W (hide (fun W => pick_max_a W (hide HL) (hide (fun W => cut_any x k.wd W x0 x1))))

end Go.Proofs.YtpbgpdmffejdgabGreatDoor
namespace Go.Proofs.YtpbgpdmffejdgabGreatDoor
open Go.RowKit
open Go.Proofs.YtpbgpdmffejdgabGreatDoor.W

theorem cmp_scale (x y t : Nat) : cmpN (x * 2 ^ t) (y * 2 ^ t) = cmpN x y := by
  have h := Nat.two_pow_pos t
  unfold cmpN
  simp only [Nat.mul_lt_mul_right h]
end Go.Proofs.YtpbgpdmffejdgabGreatDoor
namespace Go.Proofs.YtpbgpdmffejdgabGreatDoor
open Go.RowKit
open Go.Proofs.YtpbgpdmffejdgabGreatDoor.W

/-- A number's whole part. -/
def wq (M : Nat) : Nat := M / 2 ^ Z5
/-- What it loses by that. -/
def wr (M : Nat) : Nat := M % 2 ^ Z5
/-- Twice what is lost, held against one. -/
def wh (M : Nat) : Int := cmpN (wr M * 2 ^ 1) (2 ^ Z5)
/-- Whether it goes away from nought: 1 above, 2 below, 3 toward nought, 4 to what is nearest. -/
def upN (way : Int) (n : Bool) (M : Nat) : Bool :=
  if way = 1 then decide (wr M ≠ 0) && !n else if way = 2 then decide (wr M ≠ 0) && n else if way = 4 then (decide (wh M = 1) || (decide (wh M = 0) && decide (wq M % 2 = 1))) else false
def wholeN (way : Int) (n : Bool) (M : Nat) : Nat := wq M + (upN way n M).toNat
/-- The float that is made whole. -/
def makeB (f P Q b way x : Int) : Int :=
  if oK P Q x = 3 then nanB f P Q else if oK P Q x ≠ 1 then cutN f P Q x else rd f P Q b (oN P Q x) (wholeN way (oN P Q x) (oM f P Q b x) * 2 ^ Z5)

theorem w_split (M : Nat) : wq M * 2 ^ Z5 + wr M = M := by
  unfold wq wr
  rw [Nat.mul_comm]
  exact Nat.div_add_mod M (2 ^ Z5)
theorem cmpN_in (v u : Nat) : cmpN v u = -1 ∧ v < u ∨ cmpN v u = 0 ∧ v = u ∨ cmpN v u = 1 ∧ u < v := by
  unfold cmpN
  by_cases h : v < u
  · rw [if_pos h]; exact Or.inl ⟨rfl, h⟩
  · rw [if_neg h]
    by_cases g : u < v
    · rw [if_pos g]; exact Or.inr (Or.inr ⟨rfl, g⟩)
    · rw [if_neg g]; exact Or.inr (Or.inl ⟨rfl, by omega⟩)

theorem mag_dn (k : Nat) (hk : k ≤ 5000) {X S : Int} (hX : X = -(k : Int)) : mag X S = S.toNat * 2 ^ (Z5 - k) ∧ 2 ^ Z5 = 2 ^ k * 2 ^ (Z5 - k) := by
  constructor
  · unfold mag
    rw [show (X + 5000).toNat = Z5 - k by unfold Z5; omega]
  · rw [← Nat.pow_add, show k + (Z5 - k) = Z5 by unfold Z5; omega]
theorem low_dn (k : Nat) (hk : k ≤ 5000) {X S : Int} (hX : X = -(k : Int)) : wq (mag X S) = S.toNat / 2 ^ k ∧ wr (mag X S) = S.toNat % 2 ^ k * 2 ^ (Z5 - k) ∧ wh (mag X S) = cmpN (S.toNat % 2 ^ k * 2 ^ 1) (2 ^ k) := by
  obtain ⟨h1, h2⟩ := mag_dn k hk (S := S) hX
  have hp := Nat.two_pow_pos (Z5 - k)
  have hr : wr (mag X S) = S.toNat % 2 ^ k * 2 ^ (Z5 - k) := by
    unfold wr
    rw [h1, h2, Nat.mul_mod_mul_right]
  refine ⟨?_, hr, ?_⟩
  · unfold wq
    rw [h1, h2, Nat.mul_div_mul_right _ _ hp]
  · unfold wh
    rw [hr, h2, Nat.mul_right_comm]
    exact cmp_scale _ _ _
theorem low_dn0 (k : Nat) (hk : k ≤ 5000) {X S : Int} (hX : X = -(k : Int)) : (wr (mag X S) ≠ 0) = (S.toNat % 2 ^ k ≠ 0) := by
  obtain ⟨-, h, -⟩ := low_dn k hk (S := S) hX
  have hp := Nat.two_pow_pos (Z5 - k)
  rw [h]
  refine propext ⟨fun a e => a (by rw [e, Nat.zero_mul]), fun a e => ?_⟩
  rcases Nat.mul_eq_zero.mp e with h | h
  · exact a h
  · omega
theorem low_up {X S : Int} (hX : 0 ≤ X) : wq (mag X S) = S.toNat * 2 ^ X.toNat ∧ wr (mag X S) = 0 ∧ wh (mag X S) = -1 := by
  have hm : mag X S = S.toNat * 2 ^ X.toNat * 2 ^ Z5 := by
    unfold mag
    rw [show (X + 5000).toNat = X.toNat + Z5 by unfold Z5; omega, Nat.pow_add, Nat.mul_assoc]
  have hp := Nat.two_pow_pos Z5
  have hr : wr (mag X S) = 0 := by unfold wr; rw [hm, Nat.mul_mod_left]
  refine ⟨by unfold wq; rw [hm, Nat.mul_div_cancel _ hp], hr, ?_⟩
  unfold wh cmpN
  rw [hr, Nat.zero_mul, if_pos hp]
theorem wh_none {M : Nat} (h : wr M = 0) : wh M = -1 := by
  unfold wh cmpN
  rw [h, Nat.zero_mul, if_pos (Nat.two_pow_pos Z5)]
theorem up_none {M : Nat} (way : Int) (n : Bool) (h : wr M = 0) : upN way n M = false := by
  unfold upN
  rw [wh_none h, h]
  simp
theorem whole_none {M : Nat} (way : Int) (n : Bool) (h : wr M = 0) : wholeN way n M * 2 ^ Z5 = M := by
  have h1 := w_split M
  rw [h, Nat.add_zero] at h1
  unfold wholeN
  rw [up_none way n h, show false.toNat = 0 from rfl, Nat.add_zero]
  exact h1

/-- The halves of 2^k in S, what is lost below them. -/
theorem near_half (S k : Nat) : (decide (S / 2 ^ k % 2 = 1) && (decide (S % 2 ^ k ≠ 0) || decide (S / 2 ^ (k + 1) % 2 = 1))) = (decide (cmpN (S % 2 ^ (k + 1) * 2 ^ 1) (2 ^ (k + 1)) = 1) || (decide (cmpN (S % 2 ^ (k + 1) * 2 ^ 1) (2 ^ (k + 1)) = 0) && decide (S / 2 ^ (k + 1) % 2 = 1))) := by
  have hp := Nat.two_pow_pos k
  have e1 : S / 2 ^ k / 2 = S / 2 ^ (k + 1) := by rw [Nat.div_div_eq_div_mul, Nat.pow_succ]
  have e2 : S % 2 ^ (k + 1) = S / 2 ^ k % 2 * 2 ^ k + S % 2 ^ k := by
    have := Nat.mod_pow_succ (x := S) (b := 2) (k := k)
    rw [this, Nat.mul_comm]; omega
  have hl := Nat.mod_lt S hp
  rw [e2, Nat.pow_succ 2 k]
  generalize S / (2 ^ k * 2) % 2 = o
  generalize S % 2 ^ k = r at *
  generalize hb : S / 2 ^ k % 2 = a
  generalize 2 ^ k = p at *
  have ha : a = 0 ∨ a = 1 := by omega
  rcases ha with rfl | rfl
  · rcases cmpN_in ((0 * p + r) * 2 ^ 1) (p * 2) with ⟨e, h⟩ | ⟨e, h⟩ | ⟨e, h⟩ <;> rw [e]
    · simp
    · exfalso; omega
    · exfalso; omega
  · rcases cmpN_in ((1 * p + r) * 2 ^ 1) (p * 2) with ⟨e, h⟩ | ⟨e, h⟩ | ⟨e, h⟩ <;> rw [e]
    · exfalso; omega
    · have : r = 0 := by omega
      subst this
      simp
    · have : r ≠ 0 := by omega
      simp [this]

end Go.Proofs.YtpbgpdmffejdgabGreatDoor
namespace Go.Proofs.YtpbgpdmffejdgabGreatDoor
open Go.RowKit
open Go.Proofs.YtpbgpdmffejdgabGreatDoor.W

theorem broken_any {w e f P Q b K X S : Int} (k : Kd w e f P Q b) (n : Bool) (h : Prt f P Q b K X S) (W : World) :
    Calls Tryz.prog 139 #[.agg #[.bool n, .int .i64 K, .int .i64 X, .int .u64 S]] W fun r W' => r = .returned (.bool (decide (wr (mag X S) ≠ 0))) ∧ Below W.heap.size W W' := by
  obtain ⟨x0, x1, s0, s1, s2⟩ := h.in k
  have hv := small_w2 s0 (by omega)
  have e : decide (wr (mag X S) ≠ 0) = lostB S.toNat (-X) := by
    unfold lostB
    by_cases hX : 0 ≤ X
    · rw [(low_up hX).2.1, show (-X).toNat = 0 by omega]
      simp [Nat.mod_one]
    · have := low_dn0 (-X).toNat (by omega) (X := X) (S := S) (by omega)
      simp only [this]
  rw [e]
  exact broken_l W (hide (fun W => of_n S W s0 (by omega))) (i64_id (x := -X) (by omega) (by omega)) (hide (fun W => right_n S.toNat (-X) W hv))

theorem and_1 {z : Int} (h0 : 0 ≤ z) (h1 : z < 18446744073709551616) : bits .and .u64 z 1 = z % 2 := and_mask 1 z 1 h0 h1 (by decide) (by omega)
theorem odd_b (v : Nat) : ((v : Int) % 2 == 1) = decide (v % 2 = 1) := by
  by_cases h : v % 2 = 1
  · have : (v : Int) % 2 = 1 := by omega
    simp [h, this]
  · have : (v : Int) % 2 = 0 := by omega
    simp [h, this]
theorem split_any {w e f P Q b X S : Int} (k : Kd w e f P Q b) (n : Bool) (h : Prt f P Q b 1 X S) (hb : wr (mag X S) ≠ 0) :
    ∃ a m o : Bool, (a && (m || o)) = upN 4 n (mag X S) ∧ wq (mag X S) < 9007199254740992 ∧ wq (mag X S) + 1 ≤ 2 ^ f.toNat ∧ Ct 140 #[.agg #[.bool n, .int .i64 1, .int .i64 X, .int .u64 S]] (.tuple #[.int .u64 (wq (mag X S) : Nat), .agg #[.bool a, .bool m, .bool o]]) := by
  obtain ⟨x0, x1, s0, s1, s2⟩ := h.in k
  have hX : X < 0 := by
    refine Decidable.byContradiction fun hc => hb ?_
    exact (low_up (by omega)).2.1
  obtain ⟨j, hj⟩ : ∃ j : Nat, X = -((j + 1 : Nat) : Int) := ⟨(-X).toNat - 1, by omega⟩
  obtain ⟨hq, hr, hh⟩ := low_dn (j + 1) (by omega) (S := S) hj
  have hp := Nat.two_pow_pos j
  have hS := pow_int k.pow.1 s0 s1
  have hhv : S.toNat / 2 ^ j < 18446744073709551616 := Nat.lt_of_le_of_lt (Nat.div_le_self _ _) (by omega)
  have hq2 : S.toNat / 2 ^ (j + 1) = S.toNat / 2 ^ j / 2 := by rw [Nat.div_div_eq_div_mul, Nat.pow_succ]
  have hqb : S.toNat / 2 ^ (j + 1) < 2 ^ f.toNat := by
    rw [Nat.div_lt_iff_lt_mul (Nat.two_pow_pos _)]
    have h1 : 2 ^ (f.toNat + 1) ≤ 2 ^ f.toNat * 2 ^ (j + 1) := by
      rw [Nat.pow_succ 2 j, Nat.pow_succ 2 f.toNat]
      have : 2 ^ f.toNat * 1 ≤ 2 ^ f.toNat * 2 ^ j := Nat.mul_le_mul_left _ hp
      rw [← Nat.mul_assoc]
      omega
    omega
  refine ⟨decide (S.toNat / 2 ^ j % 2 = 1), decide (S.toNat % 2 ^ j ≠ 0), decide (S.toNat / 2 ^ (j + 1) % 2 = 1), ?_, ?_, by rw [hq]; omega, ?_⟩
  · have := near_half S.toNat j
    rw [this]
    unfold upN
    rw [if_neg (by omega), if_neg (by omega), if_pos rfl, hh, hq]
  · rw [hq, hq2]
    have := Nat.div_le_self S.toNat (2 ^ j)
    omega
  · have HR := fun W => right_n S.toNat (j : Int) W (small_w2 s0 (by omega))
    have e1 : shrN S.toNat (j : Int) = S.toNat / 2 ^ j := by unfold shrN; rw [Int.toNat_natCast]
    have e2 : lostB S.toNat (j : Int) = decide (S.toNat % 2 ^ j ≠ 0) := by unfold lostB; rw [Int.toNat_natCast]
    rw [e1, e2, lo_small hhv] at HR
    have := fun W => split_l (n1 := n) (K1 := 1) (X1 := X) (S1 := S) (E := -X) (E1 := (j : Int)) (n := ((wq (mag X S) : Nat) : Int)) (a := ((S.toNat / 2 ^ j : Nat) : Int) % 2) (o := ((wq (mag X S) : Nat) : Int) % 2) W (hide (fun W => of_n S W s0 (by omega))) (i64_id (by omega) (by omega))
      (by rw [show -X - 1 = (j : Int) by omega]; exact i64_id (by omega) (by omega)) (hide HR) (by rw [hq, hq2]; omega) (and_1 (by omega) (by omega)) (and_1 (by omega) (by rw [hq]; have := Nat.div_le_self S.toNat (2 ^ (j + 1)); omega))
    rw [odd_b, odd_b, hq] at this
    rw [hq]
    exact this

theorem make_keep {w e f P Q b X S : Int} (k : Kd w e f P Q b) (x way : Int) (h : Prt f P Q b (oK P Q x) X S) (hm : mag X S = oM f P Q b x) (hb : wr (mag X S) = 0) :
    narrowN f P Q b (oN P Q x) (oK P Q x) X S = makeB f P Q b way x := by
  rw [narrow_rd k _ h]
  unfold makeB
  rcases kind_oc k x with ⟨h1, -, -⟩ | ⟨h1, h2, -⟩ | ⟨h1, -, -, -⟩ | ⟨h1, h2, -⟩
  · rw [if_neg (by omega), if_neg (by omega), if_neg (by omega), if_pos h1]; rfl
  · rw [if_neg (by omega), if_neg (by omega), if_pos h1, if_neg (by omega), if_pos (by omega), cut_fl k (by omega), h2]
    exact put_inf k _
  · rw [if_neg (by omega), if_pos h1, if_neg (by omega), if_neg (by omega), ← hm, whole_none way _ hb]
  · rw [if_pos h1, if_neg (by omega), if_pos (by omega), cut_fl k (by omega), h2]
    exact put_nought _

end Go.Proofs.YtpbgpdmffejdgabGreatDoor
namespace Go.Proofs.YtpbgpdmffejdgabGreatDoor
open Go.RowKit
open Go.Proofs.YtpbgpdmffejdgabGreatDoor.W

theorem pack_whole {w e f P Q b : Int} (k : Kd w e f P Q b) (n : Bool) (m : Nat) (hm : m < 18446744073709551616) : Ct 100 #[.int .i64 w, .bool n, .agg #[.int .u64 (hi m), .int .u64 (lo m)], .int .i64 0, .bool false] (.int .u64 (rd f P Q b n (m * 2 ^ Z5))) := by
  have h := fun W => pack_at k n m (by unfold W2; omega) (E := 0) (by omega) (by omega) W
  rw [Z5_at] at h
  exact h
theorem of_whole (m : Nat) (hm : m < 18446744073709551616) : Ct 101 #[.int .u64 (m : Int)] (.agg #[.int .u64 (hi m), .int .u64 (lo m)]) := fun W => by
  have h := of_n (m : Int) W (by omega) (by omega)
  rw [Int.toNat_natCast] at h
  exact h
theorem of_next (m : Nat) (hm : m + 1 < 18446744073709551616) : Ct 101 #[.int .u64 ((m : Int) + 1)] (.agg #[.int .u64 (hi (m + 1)), .int .u64 (lo (m + 1))]) := fun W => by
  have h := of_n ((m : Int) + 1) W (by omega) (by omega)
  rw [show ((m : Int) + 1).toNat = m + 1 by omega] at h
  exact h
theorem near_c (n a m o : Bool) : Ct 94 #[.bool n, .agg #[.bool a, .bool m, .bool o]] (.bool (a && (m || o))) := by
  cases a
  · exact fun W => near_c0 W
  · cases m
    · exact fun W => near_c2 W
    · exact fun W => near_c1 W
theorem ceil_any {w e f P Q b x : Int} (k : Kd w e f P Q b) (W : World) (x0 : 0 ≤ x) (x1 : x < 18446744073709551616) :
    Calls Tryz.prog 42 #[.int .i64 w, .int .u64 x] W fun r W' => r = .returned (.int .u64 (makeB f P Q b 1 x)) ∧ Below W.heap.size W W' := by
  obtain ⟨X, S, ho, hp, hm⟩ := open_kd k x
  obtain ⟨-, -, s0, -, s2⟩ := hp.in k
  have HO := fun W => open_any x k.wd W x0 x1 ho
  have HK := fun W => broken_any k (oN P Q x) hp W
  refine ceil_l W (hide fun W => ?_)
  by_cases hb : wr (mag X S) = 0
  · rw [show decide (wr (mag X S) ≠ 0) = false from df (fun h => h hb)] at HK
    have HN := fun W => narrow_any k (oN P Q x) (oK P Q x) X S s0 (by omega) W
    rw [make_keep k x 1 hp hm hb] at HN
    exact next_ceil_w W (hide HO) (hide HK) (hide HN)
  · have hd : decide (wr (mag X S) ≠ 0) = true := dt hb
    rw [hd] at HK
    have hK : oK P Q x = 1 := by
      refine Decidable.byContradiction fun hc => hb ?_
      rw [hp.mag0 hc]
      exact Nat.zero_mod _
    have hB : makeB f P Q b 1 x = rd f P Q b (oN P Q x) (wholeN 1 (oN P Q x) (mag X S) * 2 ^ Z5) := by
      unfold makeB
      rw [if_neg (by omega), if_neg (by omega), hm]
    rw [hK] at hp HO HK
    obtain ⟨a, m, o, hu, hq, -, HS⟩ := split_any k (oN P Q x) hp hb
    have HF : Ct 91 #[.bool (oN P Q x), .agg #[.bool a, .bool m, .bool o]] (.bool (upN 1 (oN P Q x) (mag X S))) := by
      rw [show upN 1 (oN P Q x) (mag X S) = !oN P Q x by unfold upN; rw [if_pos rfl, hd, Bool.true_and]]
      exact fun W => ceil_c W
    by_cases hup : upN 1 (oN P Q x) (mag X S) = true
    · rw [hup] at HF
      rw [hB, show wholeN 1 (oN P Q x) (mag X S) = wq (mag X S) + 1 by unfold wholeN; rw [hup]; rfl]
      exact next_ceil_t W (hide HO) (hide HK) HS HF (u64_id (by omega) (by omega)) (of_next _ (by omega)) (pack_whole k _ _ (by omega))
    · have hup := Bool.eq_false_iff.mpr hup
      rw [hup] at HF
      rw [hB, show wholeN 1 (oN P Q x) (mag X S) = wq (mag X S) by unfold wholeN; rw [hup]; rfl]
      exact next_ceil_f W (hide HO) (hide HK) HS HF (of_whole _ (by omega)) (pack_whole k _ _ (by omega))

theorem floor_any {w e f P Q b x : Int} (k : Kd w e f P Q b) (W : World) (x0 : 0 ≤ x) (x1 : x < 18446744073709551616) :
    Calls Tryz.prog 43 #[.int .i64 w, .int .u64 x] W fun r W' => r = .returned (.int .u64 (makeB f P Q b 2 x)) ∧ Below W.heap.size W W' := by
  obtain ⟨X, S, ho, hp, hm⟩ := open_kd k x
  obtain ⟨-, -, s0, -, s2⟩ := hp.in k
  have HO := fun W => open_any x k.wd W x0 x1 ho
  have HK := fun W => broken_any k (oN P Q x) hp W
  refine floor_l W (hide fun W => ?_)
  by_cases hb : wr (mag X S) = 0
  · rw [show decide (wr (mag X S) ≠ 0) = false from df (fun h => h hb)] at HK
    have HN := fun W => narrow_any k (oN P Q x) (oK P Q x) X S s0 (by omega) W
    rw [make_keep k x 2 hp hm hb] at HN
    exact next_floor_w W (hide HO) (hide HK) (hide HN)
  · have hd : decide (wr (mag X S) ≠ 0) = true := dt hb
    rw [hd] at HK
    have hK : oK P Q x = 1 := by
      refine Decidable.byContradiction fun hc => hb ?_
      rw [hp.mag0 hc]
      exact Nat.zero_mod _
    have hB : makeB f P Q b 2 x = rd f P Q b (oN P Q x) (wholeN 2 (oN P Q x) (mag X S) * 2 ^ Z5) := by
      unfold makeB
      rw [if_neg (by omega), if_neg (by omega), hm]
    rw [hK] at hp HO HK
    obtain ⟨a, m, o, hu, hq, -, HS⟩ := split_any k (oN P Q x) hp hb
    have HF : Ct 92 #[.bool (oN P Q x), .agg #[.bool a, .bool m, .bool o]] (.bool (upN 2 (oN P Q x) (mag X S))) := by
      rw [show upN 2 (oN P Q x) (mag X S) = oN P Q x by unfold upN; rw [if_neg (by omega), if_pos rfl, hd, Bool.true_and]]
      exact fun W => floor_c W
    by_cases hup : upN 2 (oN P Q x) (mag X S) = true
    · rw [hup] at HF
      rw [hB, show wholeN 2 (oN P Q x) (mag X S) = wq (mag X S) + 1 by unfold wholeN; rw [hup]; rfl]
      exact next_floor_t W (hide HO) (hide HK) HS HF (u64_id (by omega) (by omega)) (of_next _ (by omega)) (pack_whole k _ _ (by omega))
    · have hup := Bool.eq_false_iff.mpr hup
      rw [hup] at HF
      rw [hB, show wholeN 2 (oN P Q x) (mag X S) = wq (mag X S) by unfold wholeN; rw [hup]; rfl]
      exact next_floor_f W (hide HO) (hide HK) HS HF (of_whole _ (by omega)) (pack_whole k _ _ (by omega))

theorem trunc_any {w e f P Q b x : Int} (k : Kd w e f P Q b) (W : World) (x0 : 0 ≤ x) (x1 : x < 18446744073709551616) :
    Calls Tryz.prog 44 #[.int .i64 w, .int .u64 x] W fun r W' => r = .returned (.int .u64 (makeB f P Q b 3 x)) ∧ Below W.heap.size W W' := by
  obtain ⟨X, S, ho, hp, hm⟩ := open_kd k x
  obtain ⟨-, -, s0, -, s2⟩ := hp.in k
  have HO := fun W => open_any x k.wd W x0 x1 ho
  have HK := fun W => broken_any k (oN P Q x) hp W
  refine trunc_l W (hide fun W => ?_)
  by_cases hb : wr (mag X S) = 0
  · rw [show decide (wr (mag X S) ≠ 0) = false from df (fun h => h hb)] at HK
    have HN := fun W => narrow_any k (oN P Q x) (oK P Q x) X S s0 (by omega) W
    rw [make_keep k x 3 hp hm hb] at HN
    exact next_trunc_w W (hide HO) (hide HK) (hide HN)
  · have hd : decide (wr (mag X S) ≠ 0) = true := dt hb
    rw [hd] at HK
    have hK : oK P Q x = 1 := by
      refine Decidable.byContradiction fun hc => hb ?_
      rw [hp.mag0 hc]
      exact Nat.zero_mod _
    have hB : makeB f P Q b 3 x = rd f P Q b (oN P Q x) (wholeN 3 (oN P Q x) (mag X S) * 2 ^ Z5) := by
      unfold makeB
      rw [if_neg (by omega), if_neg (by omega), hm]
    rw [hK] at hp HO HK
    obtain ⟨a, m, o, hu, hq, -, HS⟩ := split_any k (oN P Q x) hp hb
    have HF : Ct 93 #[.bool (oN P Q x), .agg #[.bool a, .bool m, .bool o]] (.bool (upN 3 (oN P Q x) (mag X S))) := by
      rw [show upN 3 (oN P Q x) (mag X S) = false by unfold upN; rw [if_neg (by omega), if_neg (by omega), if_neg (by omega)]]
      exact fun W => trunc_c W
    have hup : upN 3 (oN P Q x) (mag X S) = false := by unfold upN; rw [if_neg (by omega), if_neg (by omega), if_neg (by omega)]
    rw [hup] at HF
    rw [hB, show wholeN 3 (oN P Q x) (mag X S) = wq (mag X S) by unfold wholeN; rw [hup]; rfl]
    exact next_trunc_f W (hide HO) (hide HK) HS HF (of_whole _ (by omega)) (pack_whole k _ _ (by omega))

theorem near_any {w e f P Q b x : Int} (k : Kd w e f P Q b) (W : World) (x0 : 0 ≤ x) (x1 : x < 18446744073709551616) :
    Calls Tryz.prog 45 #[.int .i64 w, .int .u64 x] W fun r W' => r = .returned (.int .u64 (makeB f P Q b 4 x)) ∧ Below W.heap.size W W' := by
  obtain ⟨X, S, ho, hp, hm⟩ := open_kd k x
  obtain ⟨-, -, s0, -, s2⟩ := hp.in k
  have HO := fun W => open_any x k.wd W x0 x1 ho
  have HK := fun W => broken_any k (oN P Q x) hp W
  refine near_l W (hide fun W => ?_)
  by_cases hb : wr (mag X S) = 0
  · rw [show decide (wr (mag X S) ≠ 0) = false from df (fun h => h hb)] at HK
    have HN := fun W => narrow_any k (oN P Q x) (oK P Q x) X S s0 (by omega) W
    rw [make_keep k x 4 hp hm hb] at HN
    exact next_near_w W (hide HO) (hide HK) (hide HN)
  · have hd : decide (wr (mag X S) ≠ 0) = true := dt hb
    rw [hd] at HK
    have hK : oK P Q x = 1 := by
      refine Decidable.byContradiction fun hc => hb ?_
      rw [hp.mag0 hc]
      exact Nat.zero_mod _
    have hB : makeB f P Q b 4 x = rd f P Q b (oN P Q x) (wholeN 4 (oN P Q x) (mag X S) * 2 ^ Z5) := by
      unfold makeB
      rw [if_neg (by omega), if_neg (by omega), hm]
    rw [hK] at hp HO HK
    obtain ⟨a, m, o, hu, hq, -, HS⟩ := split_any k (oN P Q x) hp hb
    have HF := near_c (oN P Q x) a m o
    rw [hu] at HF
    by_cases hup : upN 4 (oN P Q x) (mag X S) = true
    · rw [hup] at HF
      rw [hB, show wholeN 4 (oN P Q x) (mag X S) = wq (mag X S) + 1 by unfold wholeN; rw [hup]; rfl]
      exact next_near_t W (hide HO) (hide HK) HS HF (u64_id (by omega) (by omega)) (of_next _ (by omega)) (pack_whole k _ _ (by omega))
    · have hup := Bool.eq_false_iff.mpr hup
      rw [hup] at HF
      rw [hB, show wholeN 4 (oN P Q x) (mag X S) = wq (mag X S) by unfold wholeN; rw [hup]; rfl]
      exact next_near_f W (hide HO) (hide HK) HS HF (of_whole _ (by omega)) (pack_whole k _ _ (by omega))

end Go.Proofs.YtpbgpdmffejdgabGreatDoor
namespace Go.Proofs.YtpbgpdmffejdgabGreatDoor
open Go.RowKit
open Go.Proofs.YtpbgpdmffejdgabGreatDoor.W

/-- The float that is nearest to a float of another width. -/
def turnB (f P Q b : Int) (n : Bool) (K : Int) (M : Nat) : Int := if K = 3 then nanB f P Q else if K = 2 then put f P Q n (Q - 1) 0 else rd f P Q b n M

end Go.Proofs.YtpbgpdmffejdgabGreatDoor
namespace Go.Proofs.YtpbgpdmffejdgabGreatDoor
open Go.RowKit
open Go.Proofs.YtpbgpdmffejdgabGreatDoor.W

theorem cut_kd {w e f P Q b x : Int} (k : Kd w e f P Q b) : cutN f P Q x = x % (2 * (P * Q)) := by unfold cutN; rw [if_neg k.f0]
end Go.Proofs.YtpbgpdmffejdgabGreatDoor
namespace Go.Proofs.YtpbgpdmffejdgabGreatDoor
open Go.RowKit
open Go.Proofs.YtpbgpdmffejdgabGreatDoor.W

theorem narrow_turn {w e f P Q b w' e' f' P' Q' b' K X S : Int} (k : Kd w e f P Q b) (k' : Kd w' e' f' P' Q' b') (n : Bool) (h : Prt f P Q b K X S) : narrowN f' P' Q' b' n K X S = turnB f' P' Q' b' n K (mag X S) := by
  obtain ⟨a, c, -⟩ := h.in k
  unfold narrowN turnB nanB
  rw [num_mag S a c]
  have hK : K = 0 ∨ K = 1 ∨ K = 2 ∨ K = 3 := by unfold Prt at h; omega
  rcases hK with rfl | rfl | rfl | rfl
  · rw [if_pos rfl, if_neg (by decide), if_neg (by decide), h.mag0 (by decide), rd_zero k']
  · rw [if_neg (by decide), if_pos rfl, if_neg (by decide), if_neg (by decide)]
    rfl
  · simp
  · simp
theorem promote_any {x : Int} (x0 : 0 ≤ x) (x1 : x < 18446744073709551616) : Ct 58 #[.int .u64 x] (.int .u64 (turnB 52 4503599627370496 2048 1023 (oN 8388608 256 x) (oK 8388608 256 x) (oM 23 8388608 256 127 x))) := by
  obtain ⟨X, S, ho, hp, hm⟩ := open_kd kd_32 x
  obtain ⟨-, -, s0, -, s1⟩ := hp.in kd_32
  have hn := fun W => narrow_any kd_64 (oN 8388608 256 x) (oK 8388608 256 x) X S s0 (by omega) W
  rw [narrow_turn kd_32 kd_64 _ hp, hm] at hn
  exact hide (fun W => promote_l W (hide (fun W => open_any x kd_32.wd W x0 x1 ho)) (hide hn))
theorem demote_any {x : Int} (x0 : 0 ≤ x) (x1 : x < 18446744073709551616) : Ct 57 #[.int .u64 x] (.int .u64 (turnB 23 8388608 256 127 (oN 4503599627370496 2048 x) (oK 4503599627370496 2048 x) (oM 52 4503599627370496 2048 1023 x))) := by
  obtain ⟨X, S, ho, hp, hm⟩ := open_kd kd_64 x
  obtain ⟨-, -, s0, -, s1⟩ := hp.in kd_64
  have hn := fun W => narrow_any kd_32 (oN 4503599627370496 2048 x) (oK 4503599627370496 2048 x) X S s0 (by omega) W
  rw [narrow_turn kd_64 kd_32 _ hp, hm] at hn
  exact hide (fun W => demote_l W (hide (fun W => open_any x kd_64.wd W x0 x1 ho)) (hide hn))

end Go.Proofs.YtpbgpdmffejdgabGreatDoor
