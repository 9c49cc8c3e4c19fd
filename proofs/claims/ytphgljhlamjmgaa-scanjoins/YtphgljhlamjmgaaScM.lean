/- What is read of bytes: plain functions on lists, no program in sight. -/
import Derived.Test.YtphgljhlamjmgaaLbM
import Derived.Test.YtphgljhlamjmgaaUtC
namespace Go.Proofs.Ytphgljhlamjmgaa

def pk {A : Type} (e : Int) (x z : A) : A := if e = 0 then x else z
theorem pk_0 {A : Type} (x z : A) : pk 0 x z = x := rfl
theorem pk_e {A : Type} {e : Int} (h : e ≠ 0) (x z : A) : pk e x z = z := if_neg h
/-- The place behind a call: that, or the one ahead behind a failure. -/
def back (e : Int) (k1 k : Nat) : Nat := if e = 0 then k1 else k
theorem back_0 (k1 k : Nat) : back 0 k1 k = k1 := rfl
theorem back_e {e : Int} (h : e ≠ 0) (k1 k : Nat) : back e k1 k = k := if_neg h

/-- What is read: a value, how many bytes, a failure. -/
abbrev Rr (A : Type) := List Int → A × Nat × Int
/-- Read at a place, if nothing has failed. -/
def lift {A : Type} (f : Rr A) (z : A) (xs : List Int) (k : Nat) (e : Int) : A × Nat × Int := if e = 0 then ((f (xs.drop k)).1, k + (f (xs.drop k)).2.1, (f (xs.drop k)).2.2) else (z, k, e)
theorem lift_0 {A : Type} (f : Rr A) (z : A) (xs : List Int) (k : Nat) : lift f z xs k 0 = ((f (xs.drop k)).1, k + (f (xs.drop k)).2.1, (f (xs.drop k)).2.2) := rfl
theorem lift_e {A : Type} (f : Rr A) (z : A) (xs : List Int) (k : Nat) {e : Int} (h : e ≠ 0) : lift f z xs k e = (z, k, e) := if_neg h
/-- One behind the other. -/
def bnd {A B : Type} (z : B) (f : Rr A) (g : A → Rr B) : Rr B := fun l =>
  if (f l).2.2 = 0 then (if (g (f l).1 (l.drop (f l).2.1)).2.2 = 0 then ((g (f l).1 (l.drop (f l).2.1)).1, (f l).2.1 + (g (f l).1 (l.drop (f l).2.1)).2.1, 0) else (z, 0, (g (f l).1 (l.drop (f l).2.1)).2.2)) else (z, 0, (f l).2.2)
theorem seq {A B : Type} {z1 : A} {z z2 : B} {f : Rr A} {g : A → Rr B} {xs : List Int} {k k1 k2 : Nat} {e e1 e2 : Int} {x : A} {y : B} (h1 : lift f z1 xs k e = (x, k1, e1)) (h2 : lift (g x) z2 xs k1 e1 = (y, k2, e2)) :
    lift (bnd z f g) z xs k e = (pk e2 y z, back e2 k2 k, e2) := by
  by_cases he : e = 0
  · subst he
    rw [lift_0] at h1 ⊢
    injection h1 with a1 h1
    injection h1 with a2 a3
    unfold bnd
    by_cases h : e1 = 0
    · subst h
      rw [if_pos a3, a1]
      rw [lift_0, ← a2, ← List.drop_drop] at h2
      injection h2 with b1 h2
      injection h2 with b2 b3
      by_cases h : e2 = 0
      · subst h
        rw [if_pos b3, pk_0, back_0, b1, ← b2, Nat.add_assoc]
      · rw [if_neg (by rw [b3]; exact h), pk_e h, back_e h, b3]
        rfl
    · rw [if_neg (by rw [a3]; exact h)]
      rw [lift_e _ _ _ _ h] at h2
      injection h2 with b1 h2
      injection h2 with b2 b3
      subst b3
      rw [pk_e h, back_e h, a3]
      rfl
  · rw [lift_e _ _ _ _ he] at h1 ⊢
    injection h1 with a1 h1
    injection h1 with a2 a3
    subst a3
    rw [lift_e _ _ _ _ he] at h2
    injection h2 with b1 h2
    injection h2 with b2 b3
    subst b3
    rw [pk_e he, back_e he]
theorem pk_pk {A : Type} (e : Int) (x z : A) : pk e (pk e x z) z = pk e x z := by
  unfold pk; by_cases h : e = 0 <;> simp [h]
theorem back_back (e : Int) (k1 k2 k : Nat) : back e (back e k1 k2) k = back e k1 k := by
  unfold back; by_cases h : e = 0 <;> simp [h]
/-- Answered without reading. -/
def giv {A : Type} (x : A) : Rr A := fun _ => (x, 0, 0)
theorem lift_giv {A : Type} (x z : A) (xs : List Int) (k : Nat) (e : Int) : lift (giv x) z xs k e = (pk e x z, k, e) := by
  by_cases h : e = 0
  · subst h; rfl
  · rw [lift_e _ _ _ _ h, pk_e h]
/-- A test. -/
def tst {A : Type} (ok : Bool) (x z : A) (er : Int) : Rr A := fun _ => if ok then (x, 0, 0) else (z, 0, er)
theorem lift_tst_t {A : Type} (x z z' : A) (er : Int) (xs : List Int) (k : Nat) (e : Int) : lift (tst true x z er) z' xs k e = (pk e x z', k, e) := by
  by_cases h : e = 0
  · subst h; rfl
  · rw [lift_e _ _ _ _ h, pk_e h]
theorem lift_tst_f {A : Type} (x z : A) {er : Int} (xs : List Int) (k : Nat) (e : Int) : lift (tst false x z er) z xs k e = (z, k, if e = 0 then er else e) := by
  by_cases h : e = 0
  · subst h; rfl
  · rw [lift_e _ _ _ _ h, if_neg h]

/-- One byte; so many; the number that they are, the lowest first. -/
def rB : Rr Int := fun l => match l with
  | [] => (0, 0, 100)
  | x :: _ => (x, 1, 0)
def rP (n : Nat) : Rr (List Int) := fun l => if n ≤ l.length then (l.take n, n, 0) else ([], 0, 100)
def lsf : List Int → Int
  | [] => 0
  | x :: r => x + 256 * lsf r
def rL (n : Nat) : Rr Int := fun l => if n ≤ l.length then (lsf (l.take n), n, 0) else (0, 0, 100)
def rU (bits : Nat) : Rr Int := fun l => ((rd VU okU l bits).1 % 18446744073709551616, (rd VU okU l bits).2.1, ((rd VU okU l bits).2.2 : Int))
def rS (bits : Nat) : Rr Int := fun l => ((rd VS okS l bits).1 % 18446744073709551616, (rd VS okS l bits).2.1, ((rd VS okS l bits).2.2 : Int))
def rS32 : Rr Int := bnd 0 (rS 32) fun n => giv (n % 4294967296)
def rName : Rr (List Int) := bnd [] (rU 32) fun n => bnd [] (rP n.toNat) fun b => tst (cnt b).isSome b [] 102
def rCount : Rr Int := bnd 0 (rU 32) fun n => tst (decide (n ≤ 4096)) n 0 3
/-- It is one of these. -/
def inl (L : List Int) (b : Int) : Bool := L.contains b
/-- What has failed behind a test. -/
def chE (t : Bool) (e z : Int) : Int := if t then e else if e = 0 then z else e
def rOne (L : List Int) (er : Int) : Rr Int := bnd 0 rB fun b => tst (inl L b) b 0 er
def rValue : Rr Int := rOne [127, 126, 125, 124] 106
def rResults : Rr Int := bnd 0 (rOne [127, 126, 125, 124, 64] 106) fun b => giv (if b = 64 then 0 else b)
def rFlag : Rr Int := rOne [0, 1] 107
abbrev Lm := Int × Int × Bool
def rLimits : Rr Lm := bnd (0, 0, false) rFlag fun h => bnd (0, 0, false) (rU 32) fun mn => if h = 1 then bnd (0, 0, false) (rU 32) fun mx => giv (mn, mx, true) else giv (mn, 0, false)
def rGlobal : Rr (Int × Bool) := bnd (0, false) rValue fun t => bnd (0, false) rFlag fun h => giv (t, decide (h = 1))
def rTable : Rr Lm := bnd (0, 0, false) (rOne [112] 106) fun _ => rLimits
/-- So many values, one behind the other: also behind a failure. -/
def many (xs : List Int) (k : Nat) (e : Int) : Nat → List Int × Nat × Int
  | 0 => ([], k, e)
  | n + 1 => ((many xs k e n).1 ++ [(lift rValue 0 xs (many xs k e n).2.1 (many xs k e n).2.2).1], (lift rValue 0 xs (many xs k e n).2.1 (many xs k e n).2.2).2.1, (lift rValue 0 xs (many xs k e n).2.1 (many xs k e n).2.2).2.2)
def rMany (n : Nat) : Rr (List Int) := fun l => if (many l 0 0 n).2.2 = 0 then many l 0 0 n else ([], 0, (many l 0 0 n).2.2)
def rTypes : Rr (List Int) := bnd [] rCount fun n => rMany n.toNat
def rFunc : Rr (List Int × List Int) := bnd ([], []) (rOne [96] 107) fun _ => bnd ([], []) rTypes fun p => bnd ([], []) rTypes fun q => giv (p, q)

/-- A failure answers nothing, and goes nowhere; not beyond the end; what is read hangs on no byte behind. -/
structure Gd {A : Type} (f : Rr A) (z : A) : Prop where
  nrm : ∀ l, (f l).2.2 ≠ 0 → f l = (z, 0, (f l).2.2)
  len : ∀ l, (f l).2.1 ≤ l.length
  loc : ∀ a b, (f a).2.2 ≠ 100 → f (a ++ b) = f a
theorem drop_app {A : Type} (a b : List A) (n : Nat) (h : n ≤ a.length) : (a ++ b).drop n = a.drop n ++ b := by
  rw [List.drop_append, Nat.sub_eq_zero_of_le h, List.drop_zero]
theorem Gd.bnd {A B : Type} {z1 : A} {z : B} {f : Rr A} {g : A → Rr B} {z2 : B} (hf : Gd f z1) (hg : ∀ x, Gd (g x) z2) : Gd (bnd z f g) z := by
  constructor
  · intro l h
    unfold Go.Proofs.Ytphgljhlamjmgaa.bnd at h ⊢
    by_cases h1 : (f l).2.2 = 0
    · rw [if_pos h1] at h ⊢
      by_cases h2 : (g (f l).1 (l.drop (f l).2.1)).2.2 = 0
      · rw [if_pos h2] at h; exact absurd rfl h
      · rw [if_neg h2]
    · rw [if_neg h1]
  · intro l
    unfold Go.Proofs.Ytphgljhlamjmgaa.bnd
    by_cases h1 : (f l).2.2 = 0
    · rw [if_pos h1]
      by_cases h2 : (g (f l).1 (l.drop (f l).2.1)).2.2 = 0
      · rw [if_pos h2]
        have a1 := hf.len l
        have a2 := (hg (f l).1).len (l.drop (f l).2.1)
        rw [List.length_drop] at a2
        show (f l).2.1 + (g (f l).1 (l.drop (f l).2.1)).2.1 ≤ l.length
        omega
      · rw [if_neg h2]; exact Nat.zero_le _
    · rw [if_neg h1]; exact Nat.zero_le _
  · intro a b h
    have key : (f a).2.2 ≠ 100 := by
      intro h1
      refine h ?_
      unfold Go.Proofs.Ytphgljhlamjmgaa.bnd
      rw [if_neg (by rw [h1]; decide)]
      exact h1
    unfold Go.Proofs.Ytphgljhlamjmgaa.bnd at h ⊢
    rw [hf.loc a b key]
    by_cases h1 : (f a).2.2 = 0
    · rw [if_pos h1] at h ⊢
      rw [if_pos h1]
      have hd := drop_app a b _ (hf.len a)
      have k2 : (g (f a).1 (a.drop (f a).2.1)).2.2 ≠ 100 := by
        intro h2
        refine h ?_
        rw [if_neg (by rw [h2]; decide)]
        exact h2
      rw [hd, (hg (f a).1).loc _ b k2]
    · rw [if_neg h1, if_neg h1]
theorem gd_giv {A : Type} (x z : A) : Gd (giv x) z := ⟨fun _ h => absurd rfl h, fun _ => Nat.zero_le _, fun _ _ _ => rfl⟩
theorem gd_tst {A : Type} (ok : Bool) (x z : A) (er : Int) : Gd (tst ok x z er) z := by
  cases ok
  · exact ⟨fun _ _ => rfl, fun _ => Nat.zero_le _, fun _ _ _ => rfl⟩
  · exact ⟨fun _ h => absurd rfl h, fun _ => Nat.zero_le _, fun _ _ _ => rfl⟩
theorem gd_B : Gd rB 0 := by
  constructor
  · intro l h
    cases l with
    | nil => rfl
    | cons x r => exact absurd rfl h
  · intro l
    cases l with
    | nil => exact Nat.le_refl _
    | cons x r => show 1 ≤ r.length + 1; omega
  · intro a b h
    cases a with
    | nil => exact absurd rfl h
    | cons x r => rfl
theorem gd_P (n : Nat) : Gd (rP n) [] := by
  constructor
  · intro l h
    unfold rP at h ⊢
    by_cases h1 : n ≤ l.length
    · rw [if_pos h1] at h; exact absurd rfl h
    · rw [if_neg h1]
  · intro l
    unfold rP
    by_cases h1 : n ≤ l.length
    · rw [if_pos h1]; exact h1
    · rw [if_neg h1]; exact Nat.zero_le _
  · intro a b h
    unfold rP at h ⊢
    by_cases h1 : n ≤ a.length
    · rw [if_pos h1, if_pos (by rw [List.length_append]; omega), List.take_append_of_le_length h1]
    · rw [if_neg h1] at h; exact absurd rfl h
theorem gd_L (n : Nat) : Gd (rL n) 0 := by
  constructor
  · intro l h
    unfold rL at h ⊢
    by_cases h1 : n ≤ l.length
    · rw [if_pos h1] at h; exact absurd rfl h
    · rw [if_neg h1]
  · intro l
    unfold rL
    by_cases h1 : n ≤ l.length
    · rw [if_pos h1]; exact h1
    · rw [if_neg h1]; exact Nat.zero_le _
  · intro a b h
    unfold rL at h ⊢
    by_cases h1 : n ≤ a.length
    · rw [if_pos h1, if_pos (by rw [List.length_append]; omega), List.take_append_of_le_length h1]
    · rw [if_neg h1] at h; exact absurd rfl h
section
variable {V : Int → Int} {ok : Int → Nat → Bool}
theorem up_len (x : Int) (t : Int × Nat × Nat) (m : Nat) (h : t.2.1 ≤ m) : (up x t).2.1 ≤ m + 1 := by
  unfold up
  by_cases k : t.2.2 = 0
  · rw [if_pos k]; show t.2.1 + 1 ≤ m + 1; omega
  · rw [if_neg k]; exact Nat.zero_le _
theorem up_100 (x : Int) (t : Int × Nat × Nat) (h : (up x t).2.2 ≠ 100) : t.2.2 ≠ 100 := by
  intro k
  apply h
  unfold up
  rw [if_neg (by rw [k]; decide)]
  exact k
theorem rd_len : ∀ (l : List Int) (n : Nat), (rd V ok l n).2.1 ≤ l.length
  | [], n => Nat.le_refl _
  | x :: r, n => by
    by_cases h1 : x < 128
    · cases h2 : ok x n
      · rw [rd_wrong h1 h2]; exact Nat.zero_le _
      · rw [rd_last h1 h2]; show 1 ≤ r.length + 1; omega
    · by_cases h2 : n ≤ 7
      · rw [rd_long h1 h2]; exact Nat.zero_le _
      · rw [rd_more h1 h2]; exact up_len x _ _ (rd_len r (n - 7))
theorem rd_loc : ∀ (a b : List Int) (n : Nat), (rd V ok a n).2.2 ≠ 100 → rd V ok (a ++ b) n = rd V ok a n
  | [], b, n, h => absurd rfl h
  | x :: r, b, n, h => by
    rw [List.cons_append]
    by_cases h1 : x < 128
    · cases h2 : ok x n
      · rw [rd_wrong h1 h2, rd_wrong h1 h2]
      · rw [rd_last h1 h2, rd_last h1 h2]
    · by_cases h2 : n ≤ 7
      · rw [rd_long h1 h2, rd_long h1 h2]
      · rw [rd_more h1 h2] at h ⊢
        rw [rd_more h1 h2, rd_loc r b (n - 7) (up_100 x _ h)]
end
theorem gd_U (bits : Nat) : Gd (rU bits) 0 := by
  constructor
  · intro l h
    unfold rU at h ⊢
    have := rd_err (V := VU) (ok := okU) l bits (by intro k; apply h; show ((rd VU okU l bits).2.2 : Int) = 0; rw [k]; rfl)
    generalize (rd VU okU l bits) = t at *
    obtain ⟨t1, t2, t3⟩ := t
    injection this with q1 q2
    injection q2 with q2 q3
    subst q1; subst q2; rfl
  · intro l; exact rd_len l bits
  · intro a b h
    unfold rU at h ⊢
    rw [rd_loc a b bits (by intro k; apply h; show ((rd VU okU a bits).2.2 : Int) = 100; rw [k]; rfl)]
theorem gd_S (bits : Nat) : Gd (rS bits) 0 := by
  constructor
  · intro l h
    unfold rS at h ⊢
    have := rd_err (V := VS) (ok := okS) l bits (by intro k; apply h; show ((rd VS okS l bits).2.2 : Int) = 0; rw [k]; rfl)
    generalize (rd VS okS l bits) = t at *
    obtain ⟨t1, t2, t3⟩ := t
    injection this with q1 q2
    injection q2 with q2 q3
    subst q1; subst q2; rfl
  · intro l; exact rd_len l bits
  · intro a b h
    unfold rS at h ⊢
    rw [rd_loc a b bits (by intro k; apply h; show ((rd VS okS a bits).2.2 : Int) = 100; rw [k]; rfl)]
theorem gd_S32 : Gd rS32 0 := (gd_S 32).bnd fun _ => gd_giv _ 0
theorem gd_Name : Gd rName [] := (gd_U 32).bnd fun _ => (gd_P _).bnd (z := []) fun _ => gd_tst _ _ [] _
theorem gd_Count : Gd rCount 0 := (gd_U 32).bnd fun _ => gd_tst _ _ 0 _
theorem gd_One (L : List Int) (er : Int) : Gd (rOne L er) 0 := gd_B.bnd fun _ => gd_tst _ _ 0 _
theorem gd_Value : Gd rValue 0 := gd_One _ _
theorem gd_Flag : Gd rFlag 0 := gd_One _ _
theorem gd_Results : Gd rResults 0 := (gd_One _ _).bnd fun _ => gd_giv _ 0
theorem gd_Limits : Gd rLimits (0, 0, false) := gd_Flag.bnd fun h => (gd_U 32).bnd (z := (0, 0, false)) fun mn => by
  by_cases k : h = 1
  · rw [if_pos k]; exact (gd_U 32).bnd fun mx => gd_giv _ (0, 0, false)
  · rw [if_neg k]; exact gd_giv _ (0, 0, false)
theorem gd_Global : Gd rGlobal (0, false) := gd_Value.bnd fun _ => gd_Flag.bnd (z := (0, false)) fun _ => gd_giv _ (0, false)
theorem gd_Table : Gd rTable (0, 0, false) := (gd_One _ _).bnd fun _ => gd_Limits
/-- Shifted. -/
theorem lift_shift {A : Type} (f : Rr A) (z : A) (xs : List Int) (k j : Nat) (e : Int) : lift f z xs (k + j) e = ((lift f z (xs.drop k) j e).1, k + (lift f z (xs.drop k) j e).2.1, (lift f z (xs.drop k) j e).2.2) := by
  by_cases h : e = 0
  · subst h
    rw [lift_0, lift_0, List.drop_drop]
    show _ = (_, k + (j + _), _)
    rw [Nat.add_assoc]
  · rw [lift_e _ _ _ _ h, lift_e _ _ _ _ h]
theorem many_shift (xs : List Int) (k : Nat) (e : Int) (n : Nat) : many xs k e n = ((many (xs.drop k) 0 e n).1, k + (many (xs.drop k) 0 e n).2.1, (many (xs.drop k) 0 e n).2.2) := by
  induction n with
  | zero => rfl
  | succ n ih =>
    unfold many
    rw [ih]
    dsimp only
    rw [lift_shift]
theorem many_dead (xs : List Int) (k : Nat) (e : Int) (n : Nat) (h : (many xs k e n).2.2 ≠ 0) (m : Nat) : (many xs k e (n + m)).2.2 = (many xs k e n).2.2 := by
  induction m with
  | zero => rfl
  | succ m ih =>
    show (lift rValue 0 xs (many xs k e (n + m)).2.1 (many xs k e (n + m)).2.2).2.2 = _
    rw [lift_e _ _ _ _ (by rw [ih]; exact h)]
    exact ih
theorem lift_len {A : Type} {f : Rr A} {z : A} (h : Gd f z) (xs : List Int) (k : Nat) (e : Int) (hk : k ≤ xs.length) : (lift f z xs k e).2.1 ≤ xs.length := by
  by_cases he : e = 0
  · subst he
    rw [lift_0]
    have := h.len (xs.drop k)
    rw [List.length_drop] at this
    show k + _ ≤ _
    omega
  · rw [lift_e _ _ _ _ he]; exact hk
theorem lift_loc {A : Type} {f : Rr A} {z : A} (h : Gd f z) (a b : List Int) (k : Nat) (e : Int) (hk : k ≤ a.length) (h1 : (lift f z a k e).2.2 ≠ 100) : lift f z (a ++ b) k e = lift f z a k e := by
  by_cases he : e = 0
  · subst he
    rw [lift_0] at h1
    rw [lift_0, lift_0, drop_app a b k hk, h.loc _ b h1]
  · rw [lift_e _ _ _ _ he, lift_e _ _ _ _ he]
theorem many_len (l : List Int) (n : Nat) : (many l 0 0 n).2.1 ≤ l.length := by
  induction n with
  | zero => exact Nat.zero_le _
  | succ n ih => exact lift_len gd_Value _ _ _ ih
theorem many_100 (l : List Int) (n : Nat) (h : (many l 0 0 (n + 1)).2.2 ≠ 100) : (many l 0 0 n).2.2 ≠ 100 := by
  intro k
  apply h
  show (lift rValue 0 l (many l 0 0 n).2.1 (many l 0 0 n).2.2).2.2 = 100
  rw [lift_e _ _ _ _ (by rw [k]; decide)]
  exact k
theorem many_loc (a b : List Int) (n : Nat) (h : (many a 0 0 n).2.2 ≠ 100) : many (a ++ b) 0 0 n = many a 0 0 n := by
  induction n with
  | zero => rfl
  | succ n ih =>
    have ih := ih (many_100 a n h)
    unfold many
    rw [ih, lift_loc gd_Value a b _ _ (many_len a n) h]
theorem gd_Many (n : Nat) : Gd (rMany n) [] := by
  constructor
  · intro l h
    unfold rMany at h ⊢
    by_cases h1 : (many l 0 0 n).2.2 = 0
    · rw [if_pos h1] at h; exact absurd h1 h
    · rw [if_neg h1]
  · intro l
    unfold rMany
    by_cases h1 : (many l 0 0 n).2.2 = 0
    · rw [if_pos h1]; exact many_len l n
    · rw [if_neg h1]; exact Nat.zero_le _
  · intro a b h
    have key : (many a 0 0 n).2.2 ≠ 100 := by
      intro k
      apply h
      unfold rMany
      rw [if_neg (by rw [k]; decide)]
      exact k
    unfold rMany
    rw [many_loc a b n key]
theorem gd_Types : Gd rTypes [] := gd_Count.bnd fun _ => gd_Many _
theorem gd_Func : Gd rFunc ([], []) := (gd_One _ _).bnd fun _ => gd_Types.bnd (z := ([], [])) fun _ => gd_Types.bnd (z := ([], [])) fun _ => gd_giv _ ([], [])
/-- What many values are, read at a place. -/
theorem lift_many (xs : List Int) (k : Nat) (n : Nat) : lift (rMany n) [] xs k 0 = (pk (many xs k 0 n).2.2 (many xs k 0 n).1 [], back (many xs k 0 n).2.2 (many xs k 0 n).2.1 k, (many xs k 0 n).2.2) := by
  rw [lift_0, many_shift]
  dsimp only
  unfold rMany
  by_cases h : (many (xs.drop k) 0 0 n).2.2 = 0
  · rw [if_pos h, h, pk_0, back_0]
  · rw [if_neg h, pk_e h, back_e h]
    rfl
end Go.Proofs.Ytphgljhlamjmgaa
