/- LbM, UtM, UtC, ScM, ScN, Base, Tk, Bs, RnA, RdA, RdC, Var, NuA. -/
import Derived.Laws.BytesArg
import GoSem.Core.Utf8
import Derived.Lib.DecodeN
import Derived.Test.YtjoonmpjcophnaaGreatDoorRows
import Derived.WalkKit
import Derived.WalkSpells
import Derived.WalkLawsBesides
import Derived.Laws.MathBits
import Derived.Laws.Pointers
import Derived.Deep.RegionHeld3
import Derived.RowKit3
import Derived.Laws.Bits64b
import Derived.Laws.Rows
import Derived.LoopN
namespace Go.Proofs.YtjoonmpjcophnaaGreatDoor

/-- Each is a byte. -/
def Byt (xs : List Int) : Prop := ∀ x ∈ xs, 0 ≤ x ∧ x < 256
theorem Byt.at {xs : List Int} (h : Byt xs) (i : Nat) (hi : i < xs.length) : 0 ≤ xs.getD i 0 ∧ xs.getD i 0 < 256 := by
  rw [List.getD_eq_getElem?_getD, List.getElem?_eq_getElem hi]
  exact h _ (List.getElem_mem _)
theorem drop_at (xs : List Int) (i : Nat) (hi : i < xs.length) : xs.drop i = xs.getD i 0 :: xs.drop (i + 1) := by
  rw [List.getD_eq_getElem?_getD, List.getElem?_eq_getElem hi]
  exact List.drop_eq_getElem_cons hi

def VU (x : Int) : Int := x
def VS (x : Int) : Int := if x < 64 then x else x - 128
def okU (x : Int) (n : Nat) : Bool := decide (x < 2 ^ n)
def okS (x : Int) (n : Nat) : Bool := decide (-(2 ^ (n - 1)) ≤ VS x ∧ VS x < 2 ^ (n - 1))
/-- A byte more ahead. -/
def up (x : Int) (t : Int × Nat × Nat) : Int × Nat × Nat := if t.2.2 = 0 then (x - 128 + 128 * t.1, t.2.1 + 1, 0) else (0, 0, t.2.2)
/-- What is read of bytes as a number of n bits: the number, how many bytes, the error. -/
def rd (V : Int → Int) (ok : Int → Nat → Bool) : List Int → Nat → Int × Nat × Nat
  | [], _ => (0, 0, 100)
  | x :: r, n => if x < 128 then (if ok x n = true then (V x, 1, 0) else (0, 0, 101)) else if n ≤ 7 then (0, 0, 101) else up x (rd V ok r (n - 7))
/-- Behind i bytes that are n together. -/
def ups (n : Int) (i : Nat) (t : Int × Nat × Nat) : Int × Nat × Nat := if t.2.2 = 0 then (n + 128 ^ i * t.1, t.2.1 + i, 0) else (0, 0, t.2.2)
section
variable {V : Int → Int} {ok : Int → Nat → Bool}
theorem rd_last {x : Int} {r : List Int} {n : Nat} (h : x < 128) (k : ok x n = true) : rd V ok (x :: r) n = (V x, 1, 0) := by
  rw [rd, if_pos h, if_pos k]
theorem rd_wrong {x : Int} {r : List Int} {n : Nat} (h : x < 128) (k : ok x n = false) : rd V ok (x :: r) n = (0, 0, 101) := by
  rw [rd, if_pos h, if_neg (by rw [k]; decide)]
theorem rd_long {x : Int} {r : List Int} {n : Nat} (h : ¬ x < 128) (k : n ≤ 7) : rd V ok (x :: r) n = (0, 0, 101) := by
  rw [rd, if_neg h, if_pos k]
theorem rd_more {x : Int} {r : List Int} {n : Nat} (h : ¬ x < 128) (k : ¬ n ≤ 7) : rd V ok (x :: r) n = up x (rd V ok r (n - 7)) := by
  rw [rd, if_neg h, if_neg k]
theorem up_err (x : Int) (t : Int × Nat × Nat) (h : (up x t).2.2 ≠ 0) : up x t = (0, 0, (up x t).2.2) := by
  unfold up at *
  by_cases k : t.2.2 = 0
  · rw [if_pos k] at h; exact absurd rfl h
  · rw [if_neg k]
theorem rd_err (l : List Int) (n : Nat) (h : (rd V ok l n).2.2 ≠ 0) : rd V ok l n = (0, 0, (rd V ok l n).2.2) := by
  cases l with
  | nil => rfl
  | cons x r =>
    by_cases h1 : x < 128
    · cases h2 : ok x n
      · rw [rd_wrong h1 h2]
      · rw [rd_last h1 h2] at h; exact absurd rfl h
    · by_cases h2 : n ≤ 7
      · rw [rd_long h1 h2]
      · rw [rd_more h1 h2] at h ⊢; exact up_err _ _ h
theorem ups_zero (l : List Int) (n : Nat) : rd V ok l n = ups 0 0 (rd V ok l n) := by
  unfold ups
  by_cases h : (rd V ok l n).2.2 = 0
  · rw [if_pos h]
    refine Prod.ext ?_ (Prod.ext ?_ ?_)
    · simp
    · simp
    · exact h
  · rw [if_neg h]; exact rd_err l n h
theorem ups_up (n x : Int) (i : Nat) (t : Int × Nat × Nat) : ups n i (up x t) = ups (n + 128 ^ i * (x - 128)) (i + 1) t := by
  unfold ups up
  by_cases h : t.2.2 = 0
  · rw [if_pos h, if_pos rfl, if_pos h]
    refine Prod.ext ?_ (Prod.ext ?_ rfl)
    · show n + 128 ^ i * (x - 128 + 128 * t.1) = n + 128 ^ i * (x - 128) + 128 ^ (i + 1) * t.1
      rw [Int.pow_succ, Int.mul_add, Int.mul_assoc, ← Int.add_assoc]
    · show t.2.1 + 1 + i = t.2.1 + (i + 1)
      omega
  · rw [if_neg h, if_neg h, if_neg h]
theorem ups_step {n : Int} {i b : Nat} {x : Int} {r : List Int} {T : Int × Nat × Nat} (h : T = ups n i (rd V ok (x :: r) (b - 7 * i))) (h1 : ¬ x < 128) (h2 : ¬ b - 7 * i ≤ 7) :
    T = ups (n + 128 ^ i * (x - 128)) (i + 1) (rd V ok r (b - 7 * (i + 1))) := by
  rw [h, rd_more h1 h2, ups_up, show b - 7 * (i + 1) = b - 7 * i - 7 by omega]
theorem ups_last {n : Int} {i b : Nat} {x : Int} {r : List Int} {T : Int × Nat × Nat} (h : T = ups n i (rd V ok (x :: r) (b - 7 * i))) (h1 : x < 128) (h2 : ok x (b - 7 * i) = true) :
    T = (n + 128 ^ i * V x, 1 + i, 0) := by
  rw [h, rd_last h1 h2]; rfl
theorem ups_wrong {n : Int} {i b : Nat} {x : Int} {r : List Int} {T : Int × Nat × Nat} (h : T = ups n i (rd V ok (x :: r) (b - 7 * i))) (h1 : x < 128) (h2 : ok x (b - 7 * i) = false) :
    T = (0, 0, 101) := by
  rw [h, rd_wrong h1 h2]; rfl
theorem ups_long {n : Int} {i b : Nat} {x : Int} {r : List Int} {T : Int × Nat × Nat} (h : T = ups n i (rd V ok (x :: r) (b - 7 * i))) (h1 : ¬ x < 128) (h2 : b - 7 * i ≤ 7) :
    T = (0, 0, 101) := by
  rw [h, rd_long h1 h2]; rfl
theorem ups_end {n : Int} {i b : Nat} {T : Int × Nat × Nat} (h : T = ups n i (rd V ok [] (b - 7 * i))) : T = (0, 0, 100) := by
  rw [h]; rfl
end
end Go.Proofs.YtjoonmpjcophnaaGreatDoor
namespace Go.Proofs.YtjoonmpjcophnaaGreatDoor

theorem Byt.at0 {xs : List Int} (h : Byt xs) (i : Nat) : 0 ≤ xs.getD i 0 ∧ xs.getD i 0 < 256 := by
  rw [List.getD_eq_getElem?_getD]
  by_cases hi : i < xs.length
  · rw [List.getElem?_eq_getElem hi]
    exact h _ (List.getElem_mem hi)
  · rw [List.getElem?_eq_none (by omega)]
    exact ⟨Int.le_refl _, by decide⟩
theorem byt_take {xs : List Int} (h : Byt xs) (i : Nat) : Byt (xs.take i) := fun x hx => h x (List.mem_of_mem_take hx)
theorem byt_drop {xs : List Int} (h : Byt xs) (i : Nat) : Byt (xs.drop i) := fun x hx => h x (List.mem_of_mem_drop hx)
/-- How many bytes a character has; 0: it is none. -/
def sz (c : Int) : Nat := if c < 0 ∨ (55296 ≤ c ∧ c ≤ 57343) ∨ 1114111 < c then 0 else if c < 128 then 1 else if c < 2048 then 2 else if c < 65536 then 3 else 4
/-- A character's bytes. -/
def put (c : Int) : List Int :=
  if sz c = 0 then [] else if sz c = 1 then [c] else if sz c = 2 then [192 + c / 64, 128 + c % 64]
  else if sz c = 3 then [224 + c / 4096, 128 + c / 64 % 64, 128 + c % 64]
  else [240 + c / 262144, 128 + c / 4096 % 64, 128 + c / 64 % 64, 128 + c % 64]
/-- What bytes begin with, and its width. -/
def dc (l : List Int) : Nat × Nat := Lib.decodeN l.length (l.getD 0 0).toNat (l.getD 1 0).toNat (l.getD 2 0).toNat (l.getD 3 0).toNat
/-- The five kinds of numbers. -/
theorem sz_ways (c : Int) : (sz c = 0 ∧ (c < 0 ∨ (55296 ≤ c ∧ c ≤ 57343) ∨ 1114111 < c)) ∨ (sz c = 1 ∧ 0 ≤ c ∧ c < 128) ∨ (sz c = 2 ∧ 128 ≤ c ∧ c < 2048)
    ∨ (sz c = 3 ∧ 2048 ≤ c ∧ c < 65536 ∧ ¬ (55296 ≤ c ∧ c ≤ 57343)) ∨ (sz c = 4 ∧ 65536 ≤ c ∧ c ≤ 1114111) := by
  unfold sz
  repeat' split
  all_goals omega
theorem put_len (c : Int) : (put c).length = sz c := by
  unfold put
  rcases sz_ways c with h | h | h | h | h <;> rw [h.1] <;> rfl
theorem sz_le (c : Int) : sz c ≤ 4 := by
  rcases sz_ways c with h | h | h | h | h <;> omega
theorem list_1 {l : List Int} (h : 1 ≤ l.length) : l = l.getD 0 0 :: l.drop 1 := by
  cases l with
  | nil => simp at h
  | cons x l => rfl
theorem list_2 {l : List Int} (h : 2 ≤ l.length) : l = l.getD 0 0 :: l.getD 1 0 :: l.drop 2 := by
  match l, h with
  | x :: y :: l, _ => rfl
theorem list_3 {l : List Int} (h : 3 ≤ l.length) : l = l.getD 0 0 :: l.getD 1 0 :: l.getD 2 0 :: l.drop 3 := by
  match l, h with
  | x :: y :: z :: l, _ => rfl
theorem list_4 {l : List Int} (h : 4 ≤ l.length) : l = l.getD 0 0 :: l.getD 1 0 :: l.getD 2 0 :: l.getD 3 0 :: l.drop 4 := by
  match l, h with
  | x :: y :: z :: u :: l, _ => rfl
theorem bad_sz : sz 65533 = 3 := by decide
set_option maxHeartbeats 4000000 in
set_option maxRecDepth 100000 in
/-- Bytes begin with a character's, or with none's. -/
theorem dc_ways {l : List Int} (hb : Byt l) (hn : 1 ≤ l.length) : (sz ((dc l).1 : Int) = (dc l).2 ∧ (dc l).2 ≠ 0 ∧ l = put ((dc l).1 : Int) ++ l.drop (dc l).2) ∨ dc l = (65533, 1) := by
  have h0 := hb.at0 0
  have h1 := hb.at0 1
  have h2 := hb.at0 2
  have h3 := hb.at0 3
  have L1 := list_1 hn
  have L2 := list_2 (l := l)
  have L3 := list_3 (l := l)
  have L4 := list_4 (l := l)
  unfold dc Lib.decodeN
  generalize hn' : l.length = n at *
  obtain ⟨a, ha⟩ := Int.eq_ofNat_of_zero_le h0.1
  obtain ⟨b, hb'⟩ := Int.eq_ofNat_of_zero_le h1.1
  obtain ⟨c, hc⟩ := Int.eq_ofNat_of_zero_le h2.1
  obtain ⟨d, hd⟩ := Int.eq_ofNat_of_zero_le h3.1
  rw [ha] at h0 L1 L2 L3 L4 ⊢
  rw [hb'] at h1 L2 L3 L4 ⊢
  rw [hc] at h2 L3 L4 ⊢
  rw [hd] at h3 L4 ⊢
  simp only [Int.toNat_natCast]
  clear ha hb' hc hd hb hn'
  split
  · left
    rename_i k
    have e : sz (a : Int) = 1 := by
      rcases sz_ways (a : Int) with s | s | s | s | s <;> omega
    refine ⟨e, by show 1 ≠ 0; decide, ?_⟩
    show l = put (a : Int) ++ l.drop 1
    unfold put
    rw [e]
    exact L1
  · split
    · split
      · left
        rename_i k1 k2 k
        generalize hm : a % 32 * 64 + b % 64 = m at *
        have e : sz (m : Int) = 2 := by
          rcases sz_ways (m : Int) with s | s | s | s | s <;> omega
        refine ⟨e, by show 2 ≠ 0; decide, ?_⟩
        show l = put (m : Int) ++ l.drop 2
        unfold put
        rw [e]
        have := L2 (by omega)
        rw [show (192 : Int) + (m : Int) / 64 = a by omega, show (128 : Int) + (m : Int) % 64 = b by omega]
        exact this
      · right; rfl
    · split
      · split
        · left
          rename_i k0 k1 k2 k
          generalize hm : a % 16 * 4096 + b % 64 * 64 + c % 64 = m at *
          have e : sz (m : Int) = 3 := by
            rcases sz_ways (m : Int) with s | s | s | s | s <;> omega
          refine ⟨e, by show 3 ≠ 0; decide, ?_⟩
          show l = put (m : Int) ++ l.drop 3
          unfold put
          rw [e]
          have := L3 (by omega)
          rw [show (224 : Int) + (m : Int) / 4096 = a by omega, show (128 : Int) + (m : Int) / 64 % 64 = b by omega, show (128 : Int) + (m : Int) % 64 = c by omega]
          exact this
        · right; rfl
      · split
        · split
          · left
            rename_i k0 k1 k2 k3 k
            generalize hm : a % 8 * 262144 + b % 64 * 4096 + c % 64 * 64 + d % 64 = m at *
            have e : sz (m : Int) = 4 := by
              rcases sz_ways (m : Int) with s | s | s | s | s <;> omega
            refine ⟨e, by show 4 ≠ 0; decide, ?_⟩
            show l = put (m : Int) ++ l.drop 4
            unfold put
            rw [e]
            have := L4 (by omega)
            rw [show (240 : Int) + (m : Int) / 262144 = a by omega, show (128 : Int) + (m : Int) / 4096 % 64 = b by omega, show (128 : Int) + (m : Int) / 64 % 64 = c by omega, show (128 : Int) + (m : Int) % 64 = d by omega]
            exact this
          · right; rfl
        · right; rfl
end Go.Proofs.YtjoonmpjcophnaaGreatDoor
namespace Go.Proofs.YtjoonmpjcophnaaGreatDoor

theorem dc_pos (l : List Int) : 1 ≤ (dc l).2 := by
  unfold dc Lib.decodeN
  repeat' split
  all_goals simp only
  all_goals omega
/-- Whether bytes begin with a character. -/
def isC (l : List Int) : Bool := decide ((dc l).2 = sz ((dc l).1 : Int))
theorem isC_no {l : List Int} (h : dc l = (65533, 1)) : isC l = false := by
  unfold isC
  rw [h]
  exact decide_eq_false (by show ¬ 1 = sz 65533; rw [bad_sz]; decide)
theorem isC_ways {l : List Int} (hb : Byt l) (hn : 1 ≤ l.length) : (isC l = true ∧ sz ((dc l).1 : Int) = (dc l).2 ∧ (dc l).2 ≠ 0 ∧ l = put ((dc l).1 : Int) ++ l.drop (dc l).2) ∨ (isC l = false ∧ dc l = (65533, 1)) := by
  rcases dc_ways hb hn with h | h
  · exact Or.inl ⟨decide_eq_true h.1.symm, h⟩
  · exact Or.inr ⟨isC_no h, h⟩
/-- How many characters bytes are; none: they are no name. -/
def cnt (l : List Int) : Option Nat := if _h : l = [] then some 0 else if isC l = true then (cnt (l.drop (dc l).2)).map (· + 1) else none
  termination_by l.length
  decreasing_by
    have h1 := dc_pos l
    have h2 := List.length_pos_iff.2 _h
    rw [List.length_drop]
    omega
theorem cnt_nil : cnt [] = some 0 := by rw [cnt]; rfl
theorem cnt_bad {l : List Int} (h : l ≠ []) (k : isC l = false) : cnt l = none := by rw [cnt, dif_neg h, if_neg (by rw [k]; decide)]
theorem cnt_ok {l : List Int} (h : l ≠ []) (k : isC l = true) : cnt l = (cnt (l.drop (dc l).2)).map (· + 1) := by rw [cnt, dif_neg h, if_pos k]
/-- What a text begins with at a place. -/
theorem str_at (xs : List Int) (h : Byt xs) (i : Nat) : ((strOfNums xs).get! i).toNat = (xs.getD i 0).toNat := by
  have hb := h.at0 i
  by_cases hi : i < xs.length
  · have hs : i < (strOfNums xs).size := by rw [strOfNums_size]; exact hi
    have e : (strOfNums xs).get! i = UInt8.ofNat (xs.getD i 0).toNat := by
      show (strOfNums xs).data[i]! = _
      rw [getElem!_pos (strOfNums xs).data i hs]
      simp [strOfNums, List.getD, List.getElem?_eq_getElem hi]
    rw [e, UInt8.toNat_ofNat', Nat.mod_eq_of_lt (by omega)]
  · have e : (strOfNums xs).get! i = 0 := by
      show (strOfNums xs).data[i]! = _
      rw [getElem!_neg (strOfNums xs).data i (by show ¬ i < (strOfNums xs).size; rw [strOfNums_size]; exact hi)]
      rfl
    rw [e, List.getD_eq_getElem?_getD, List.getElem?_eq_none (by omega)]
    rfl
theorem getD_drop (xs : List Int) (k i : Nat) : (xs.drop k).getD i 0 = xs.getD (k + i) 0 := by
  rw [List.getD_eq_getElem?_getD, List.getD_eq_getElem?_getD, List.getElem?_drop]
theorem decode_str (xs : List Int) (h : Byt xs) (k : Nat) : Utf8.decode (strOfNums xs) k = dc (xs.drop k) := by
  rw [Lib.decode_at, str_at xs h, str_at xs h, str_at xs h, str_at xs h, strOfNums_size]
  unfold dc
  rw [getD_drop, getD_drop, getD_drop, getD_drop, List.length_drop]
  rfl
theorem dc_le {l : List Int} (hb : Byt l) (hn : 1 ≤ l.length) : (dc l).2 ≤ l.length := by
  rcases dc_ways hb hn with ⟨a, b, c⟩ | h
  · have h := congrArg List.length c
    rw [List.length_append, put_len, a] at h
    omega
  · rw [h]; exact hn
end Go.Proofs.YtjoonmpjcophnaaGreatDoor
namespace Go.Proofs.YtjoonmpjcophnaaGreatDoor

def pk {A : Type} (e : Int) (x z : A) : A := if e = 0 then x else z
theorem pk_0 {A : Type} (x z : A) : pk 0 x z = x := rfl
theorem pk_e {A : Type} {e : Int} (h : e ≠ 0) (x z : A) : pk e x z = z := if_neg h
/-- The place behind a call: that, or the one ahead behind a failure. -/
def back (e : Int) (k1 k : Nat) : Nat := if e = 0 then k1 else k
theorem back_0 (k1 k : Nat) : back 0 k1 k = k1 := rfl
theorem back_e {e : Int} (h : e ≠ 0) (k1 k : Nat) : back e k1 k = k := if_neg h

/-- What is read: a value, how many bytes, a failure. -/
abbrev Rr (A : Type) := List Int → A × Nat × Int
/-- Read at a place, if nothing has failed. -/
def lift {A : Type} (f : Rr A) (z : A) (xs : List Int) (k : Nat) (e : Int) : A × Nat × Int := if e = 0 then ((f (xs.drop k)).1, k + (f (xs.drop k)).2.1, (f (xs.drop k)).2.2) else (z, k, e)
theorem lift_0 {A : Type} (f : Rr A) (z : A) (xs : List Int) (k : Nat) : lift f z xs k 0 = ((f (xs.drop k)).1, k + (f (xs.drop k)).2.1, (f (xs.drop k)).2.2) := rfl
theorem lift_e {A : Type} (f : Rr A) (z : A) (xs : List Int) (k : Nat) {e : Int} (h : e ≠ 0) : lift f z xs k e = (z, k, e) := if_neg h
/-- One behind the other. -/
def bnd {A B : Type} (z : B) (f : Rr A) (g : A → Rr B) : Rr B := fun l =>
  if (f l).2.2 = 0 then (if (g (f l).1 (l.drop (f l).2.1)).2.2 = 0 then ((g (f l).1 (l.drop (f l).2.1)).1, (f l).2.1 + (g (f l).1 (l.drop (f l).2.1)).2.1, 0) else (z, 0, (g (f l).1 (l.drop (f l).2.1)).2.2)) else (z, 0, (f l).2.2)
theorem seq {A B : Type} {z1 : A} {z z2 : B} {f : Rr A} {g : A → Rr B} {xs : List Int} {k k1 k2 : Nat} {e e1 e2 : Int} {x : A} {y : B} (h1 : lift f z1 xs k e = (x, k1, e1)) (h2 : lift (g x) z2 xs k1 e1 = (y, k2, e2)) :
    lift (bnd z f g) z xs k e = (pk e2 y z, back e2 k2 k, e2) := by
  by_cases he : e = 0
  · subst he
    rw [lift_0] at h1 ⊢
    injection h1 with a1 h1
    injection h1 with a2 a3
    unfold bnd
    by_cases h : e1 = 0
    · subst h
      rw [if_pos a3, a1]
      rw [lift_0, ← a2, ← List.drop_drop] at h2
      injection h2 with b1 h2
      injection h2 with b2 b3
      by_cases h : e2 = 0
      · subst h
        rw [if_pos b3, pk_0, back_0, b1, ← b2, Nat.add_assoc]
      · rw [if_neg (by rw [b3]; exact h), pk_e h, back_e h, b3]
        rfl
    · rw [if_neg (by rw [a3]; exact h)]
      rw [lift_e _ _ _ _ h] at h2
      injection h2 with b1 h2
      injection h2 with b2 b3
      subst b3
      rw [pk_e h, back_e h, a3]
      rfl
  · rw [lift_e _ _ _ _ he] at h1 ⊢
    injection h1 with a1 h1
    injection h1 with a2 a3
    subst a3
    rw [lift_e _ _ _ _ he] at h2
    injection h2 with b1 h2
    injection h2 with b2 b3
    subst b3
    rw [pk_e he, back_e he]
theorem pk_pk {A : Type} (e : Int) (x z : A) : pk e (pk e x z) z = pk e x z := by
  unfold pk; by_cases h : e = 0 <;> simp [h]
theorem back_back (e : Int) (k1 k2 k : Nat) : back e (back e k1 k2) k = back e k1 k := by
  unfold back; by_cases h : e = 0 <;> simp [h]
/-- Answered without reading. -/
def giv {A : Type} (x : A) : Rr A := fun _ => (x, 0, 0)
theorem lift_giv {A : Type} (x z : A) (xs : List Int) (k : Nat) (e : Int) : lift (giv x) z xs k e = (pk e x z, k, e) := by
  by_cases h : e = 0
  · subst h; rfl
  · rw [lift_e _ _ _ _ h, pk_e h]
/-- A test. -/
def tst {A : Type} (ok : Bool) (x z : A) (er : Int) : Rr A := fun _ => if ok then (x, 0, 0) else (z, 0, er)
theorem lift_tst_t {A : Type} (x z z' : A) (er : Int) (xs : List Int) (k : Nat) (e : Int) : lift (tst true x z er) z' xs k e = (pk e x z', k, e) := by
  by_cases h : e = 0
  · subst h; rfl
  · rw [lift_e _ _ _ _ h, pk_e h]
theorem lift_tst_f {A : Type} (x z : A) {er : Int} (xs : List Int) (k : Nat) (e : Int) : lift (tst false x z er) z xs k e = (z, k, if e = 0 then er else e) := by
  by_cases h : e = 0
  · subst h; rfl
  · rw [lift_e _ _ _ _ h, if_neg h]

/-- One byte; so many; the number that they are, the lowest first. -/
def rB : Rr Int := fun l => match l with
  | [] => (0, 0, 100)
  | x :: _ => (x, 1, 0)
def rP (n : Nat) : Rr (List Int) := fun l => if n ≤ l.length then (l.take n, n, 0) else ([], 0, 100)
def lsf : List Int → Int
  | [] => 0
  | x :: r => x + 256 * lsf r
def rL (n : Nat) : Rr Int := fun l => if n ≤ l.length then (lsf (l.take n), n, 0) else (0, 0, 100)
def rU (bits : Nat) : Rr Int := fun l => ((rd VU okU l bits).1 % 18446744073709551616, (rd VU okU l bits).2.1, ((rd VU okU l bits).2.2 : Int))
def rS (bits : Nat) : Rr Int := fun l => ((rd VS okS l bits).1 % 18446744073709551616, (rd VS okS l bits).2.1, ((rd VS okS l bits).2.2 : Int))
def rS32 : Rr Int := bnd 0 (rS 32) fun n => giv (n % 4294967296)
def rName : Rr (List Int) := bnd [] (rU 32) fun n => bnd [] (rP n.toNat) fun b => tst (cnt b).isSome b [] 102
def rCount : Rr Int := bnd 0 (rU 32) fun n => tst (decide (n ≤ 4096)) n 0 3
/-- It is one of these. -/
def inl (L : List Int) (b : Int) : Bool := L.contains b
/-- What has failed behind a test. -/
def chE (t : Bool) (e z : Int) : Int := if t then e else if e = 0 then z else e
def rOne (L : List Int) (er : Int) : Rr Int := bnd 0 rB fun b => tst (inl L b) b 0 er
def rValue : Rr Int := rOne [127, 126, 125, 124] 106
def rResults : Rr Int := bnd 0 (rOne [127, 126, 125, 124, 64] 106) fun b => giv (if b = 64 then 0 else b)
def rFlag : Rr Int := rOne [0, 1] 107
abbrev Lm := Int × Int × Bool
def rLimits : Rr Lm := bnd (0, 0, false) rFlag fun h => bnd (0, 0, false) (rU 32) fun mn => if h = 1 then bnd (0, 0, false) (rU 32) fun mx => giv (mn, mx, true) else giv (mn, 0, false)
def rGlobal : Rr (Int × Bool) := bnd (0, false) rValue fun t => bnd (0, false) rFlag fun h => giv (t, decide (h = 1))
def rTable : Rr Lm := bnd (0, 0, false) (rOne [112] 106) fun _ => rLimits
/-- So many values, one behind the other: also behind a failure. -/
def many (xs : List Int) (k : Nat) (e : Int) : Nat → List Int × Nat × Int
  | 0 => ([], k, e)
  | n + 1 => ((many xs k e n).1 ++ [(lift rValue 0 xs (many xs k e n).2.1 (many xs k e n).2.2).1], (lift rValue 0 xs (many xs k e n).2.1 (many xs k e n).2.2).2.1, (lift rValue 0 xs (many xs k e n).2.1 (many xs k e n).2.2).2.2)
def rMany (n : Nat) : Rr (List Int) := fun l => if (many l 0 0 n).2.2 = 0 then many l 0 0 n else ([], 0, (many l 0 0 n).2.2)
def rTypes : Rr (List Int) := bnd [] rCount fun n => rMany n.toNat
def rFunc : Rr (List Int × List Int) := bnd ([], []) (rOne [96] 107) fun _ => bnd ([], []) rTypes fun p => bnd ([], []) rTypes fun q => giv (p, q)

/-- A failure answers nothing, and goes nowhere; not beyond the end; what is read hangs on no byte behind. -/
structure Gd {A : Type} (f : Rr A) (z : A) : Prop where
  nrm : ∀ l, (f l).2.2 ≠ 0 → f l = (z, 0, (f l).2.2)
  len : ∀ l, (f l).2.1 ≤ l.length
  loc : ∀ a b, (f a).2.2 ≠ 100 → f (a ++ b) = f a
theorem drop_app {A : Type} (a b : List A) (n : Nat) (h : n ≤ a.length) : (a ++ b).drop n = a.drop n ++ b := by
  rw [List.drop_append, Nat.sub_eq_zero_of_le h, List.drop_zero]
theorem Gd.bnd {A B : Type} {z1 : A} {z : B} {f : Rr A} {g : A → Rr B} {z2 : B} (hf : Gd f z1) (hg : ∀ x, Gd (g x) z2) : Gd (bnd z f g) z := by
  constructor
  · intro l h
    unfold Go.Proofs.YtjoonmpjcophnaaGreatDoor.bnd at h ⊢
    by_cases h1 : (f l).2.2 = 0
    · rw [if_pos h1] at h ⊢
      by_cases h2 : (g (f l).1 (l.drop (f l).2.1)).2.2 = 0
      · rw [if_pos h2] at h; exact absurd rfl h
      · rw [if_neg h2]
    · rw [if_neg h1]
  · intro l
    unfold Go.Proofs.YtjoonmpjcophnaaGreatDoor.bnd
    by_cases h1 : (f l).2.2 = 0
    · rw [if_pos h1]
      by_cases h2 : (g (f l).1 (l.drop (f l).2.1)).2.2 = 0
      · rw [if_pos h2]
        have a1 := hf.len l
        have a2 := (hg (f l).1).len (l.drop (f l).2.1)
        rw [List.length_drop] at a2
        show (f l).2.1 + (g (f l).1 (l.drop (f l).2.1)).2.1 ≤ l.length
        omega
      · rw [if_neg h2]; exact Nat.zero_le _
    · rw [if_neg h1]; exact Nat.zero_le _
  · intro a b h
    have key : (f a).2.2 ≠ 100 := by
      intro h1
      refine h ?_
      unfold Go.Proofs.YtjoonmpjcophnaaGreatDoor.bnd
      rw [if_neg (by rw [h1]; decide)]
      exact h1
    unfold Go.Proofs.YtjoonmpjcophnaaGreatDoor.bnd at h ⊢
    rw [hf.loc a b key]
    by_cases h1 : (f a).2.2 = 0
    · rw [if_pos h1] at h ⊢
      rw [if_pos h1]
      have hd := drop_app a b _ (hf.len a)
      have k2 : (g (f a).1 (a.drop (f a).2.1)).2.2 ≠ 100 := by
        intro h2
        refine h ?_
        rw [if_neg (by rw [h2]; decide)]
        exact h2
      rw [hd, (hg (f a).1).loc _ b k2]
    · rw [if_neg h1, if_neg h1]
theorem gd_tst {A : Type} (ok : Bool) (x z : A) (er : Int) : Gd (tst ok x z er) z := by
  cases ok
  · exact ⟨fun _ _ => rfl, fun _ => Nat.zero_le _, fun _ _ _ => rfl⟩
  · exact ⟨fun _ h => absurd rfl h, fun _ => Nat.zero_le _, fun _ _ _ => rfl⟩
theorem gd_B : Gd rB 0 := by
  constructor
  · intro l h
    cases l with
    | nil => rfl
    | cons x r => exact absurd rfl h
  · intro l
    cases l with
    | nil => exact Nat.le_refl _
    | cons x r => show 1 ≤ r.length + 1; omega
  · intro a b h
    cases a with
    | nil => exact absurd rfl h
    | cons x r => rfl
theorem gd_P (n : Nat) : Gd (rP n) [] := by
  constructor
  · intro l h
    unfold rP at h ⊢
    by_cases h1 : n ≤ l.length
    · rw [if_pos h1] at h; exact absurd rfl h
    · rw [if_neg h1]
  · intro l
    unfold rP
    by_cases h1 : n ≤ l.length
    · rw [if_pos h1]; exact h1
    · rw [if_neg h1]; exact Nat.zero_le _
  · intro a b h
    unfold rP at h ⊢
    by_cases h1 : n ≤ a.length
    · rw [if_pos h1, if_pos (by rw [List.length_append]; omega), List.take_append_of_le_length h1]
    · rw [if_neg h1] at h; exact absurd rfl h
theorem gd_L (n : Nat) : Gd (rL n) 0 := by
  constructor
  · intro l h
    unfold rL at h ⊢
    by_cases h1 : n ≤ l.length
    · rw [if_pos h1] at h; exact absurd rfl h
    · rw [if_neg h1]
  · intro l
    unfold rL
    by_cases h1 : n ≤ l.length
    · rw [if_pos h1]; exact h1
    · rw [if_neg h1]; exact Nat.zero_le _
  · intro a b h
    unfold rL at h ⊢
    by_cases h1 : n ≤ a.length
    · rw [if_pos h1, if_pos (by rw [List.length_append]; omega), List.take_append_of_le_length h1]
    · rw [if_neg h1] at h; exact absurd rfl h
section
variable {V : Int → Int} {ok : Int → Nat → Bool}
theorem up_len (x : Int) (t : Int × Nat × Nat) (m : Nat) (h : t.2.1 ≤ m) : (up x t).2.1 ≤ m + 1 := by
  unfold up
  by_cases k : t.2.2 = 0
  · rw [if_pos k]; show t.2.1 + 1 ≤ m + 1; omega
  · rw [if_neg k]; exact Nat.zero_le _
theorem up_100 (x : Int) (t : Int × Nat × Nat) (h : (up x t).2.2 ≠ 100) : t.2.2 ≠ 100 := by
  intro k
  apply h
  unfold up
  rw [if_neg (by rw [k]; decide)]
  exact k
theorem rd_len : ∀ (l : List Int) (n : Nat), (rd V ok l n).2.1 ≤ l.length
  | [], n => Nat.le_refl _
  | x :: r, n => by
    by_cases h1 : x < 128
    · cases h2 : ok x n
      · rw [rd_wrong h1 h2]; exact Nat.zero_le _
      · rw [rd_last h1 h2]; show 1 ≤ r.length + 1; omega
    · by_cases h2 : n ≤ 7
      · rw [rd_long h1 h2]; exact Nat.zero_le _
      · rw [rd_more h1 h2]; exact up_len x _ _ (rd_len r (n - 7))
theorem rd_loc : ∀ (a b : List Int) (n : Nat), (rd V ok a n).2.2 ≠ 100 → rd V ok (a ++ b) n = rd V ok a n
  | [], b, n, h => absurd rfl h
  | x :: r, b, n, h => by
    rw [List.cons_append]
    by_cases h1 : x < 128
    · cases h2 : ok x n
      · rw [rd_wrong h1 h2, rd_wrong h1 h2]
      · rw [rd_last h1 h2, rd_last h1 h2]
    · by_cases h2 : n ≤ 7
      · rw [rd_long h1 h2, rd_long h1 h2]
      · rw [rd_more h1 h2] at h ⊢
        rw [rd_more h1 h2, rd_loc r b (n - 7) (up_100 x _ h)]
end
theorem gd_U (bits : Nat) : Gd (rU bits) 0 := by
  constructor
  · intro l h
    unfold rU at h ⊢
    have := rd_err (V := VU) (ok := okU) l bits (by intro k; apply h; show ((rd VU okU l bits).2.2 : Int) = 0; rw [k]; rfl)
    generalize (rd VU okU l bits) = t at *
    obtain ⟨t1, t2, t3⟩ := t
    injection this with q1 q2
    injection q2 with q2 q3
    subst q1; subst q2; rfl
  · intro l; exact rd_len l bits
  · intro a b h
    unfold rU at h ⊢
    rw [rd_loc a b bits (by intro k; apply h; show ((rd VU okU a bits).2.2 : Int) = 100; rw [k]; rfl)]
theorem gd_S (bits : Nat) : Gd (rS bits) 0 := by
  constructor
  · intro l h
    unfold rS at h ⊢
    have := rd_err (V := VS) (ok := okS) l bits (by intro k; apply h; show ((rd VS okS l bits).2.2 : Int) = 0; rw [k]; rfl)
    generalize (rd VS okS l bits) = t at *
    obtain ⟨t1, t2, t3⟩ := t
    injection this with q1 q2
    injection q2 with q2 q3
    subst q1; subst q2; rfl
  · intro l; exact rd_len l bits
  · intro a b h
    unfold rS at h ⊢
    rw [rd_loc a b bits (by intro k; apply h; show ((rd VS okS a bits).2.2 : Int) = 100; rw [k]; rfl)]
theorem gd_One (L : List Int) (er : Int) : Gd (rOne L er) 0 := gd_B.bnd fun _ => gd_tst _ _ 0 _
/-- Shifted. -/
theorem lift_shift {A : Type} (f : Rr A) (z : A) (xs : List Int) (k j : Nat) (e : Int) : lift f z xs (k + j) e = ((lift f z (xs.drop k) j e).1, k + (lift f z (xs.drop k) j e).2.1, (lift f z (xs.drop k) j e).2.2) := by
  by_cases h : e = 0
  · subst h
    rw [lift_0, lift_0, List.drop_drop]
    show _ = (_, k + (j + _), _)
    rw [Nat.add_assoc]
  · rw [lift_e _ _ _ _ h, lift_e _ _ _ _ h]
theorem many_shift (xs : List Int) (k : Nat) (e : Int) (n : Nat) : many xs k e n = ((many (xs.drop k) 0 e n).1, k + (many (xs.drop k) 0 e n).2.1, (many (xs.drop k) 0 e n).2.2) := by
  induction n with
  | zero => rfl
  | succ n ih =>
    unfold many
    rw [ih]
    dsimp only
    rw [lift_shift]
theorem many_dead (xs : List Int) (k : Nat) (e : Int) (n : Nat) (h : (many xs k e n).2.2 ≠ 0) (m : Nat) : (many xs k e (n + m)).2.2 = (many xs k e n).2.2 := by
  induction m with
  | zero => rfl
  | succ m ih =>
    show (lift rValue 0 xs (many xs k e (n + m)).2.1 (many xs k e (n + m)).2.2).2.2 = _
    rw [lift_e _ _ _ _ (by rw [ih]; exact h)]
    exact ih
/-- What many values are, read at a place. -/
theorem lift_many (xs : List Int) (k : Nat) (n : Nat) : lift (rMany n) [] xs k 0 = (pk (many xs k 0 n).2.2 (many xs k 0 n).1 [], back (many xs k 0 n).2.2 (many xs k 0 n).2.1 k, (many xs k 0 n).2.2) := by
  rw [lift_0, many_shift]
  dsimp only
  unfold rMany
  by_cases h : (many (xs.drop k) 0 0 n).2.2 = 0
  · rw [if_pos h, h, pk_0, back_0]
  · rw [if_neg h, pk_e h, back_e h]
    rfl
end Go.Proofs.YtjoonmpjcophnaaGreatDoor
namespace Go.Proofs.YtjoonmpjcophnaaGreatDoor

theorem byt_dropS {xs : List Int} (h : Byt xs) (k : Nat) : Byt (xs.drop k) := fun x hx => h x (List.mem_of_mem_drop hx)
theorem pow_7 (n : Nat) (h : ¬ n ≤ 7) : (2 : Int) ^ n = 128 * 2 ^ (n - 7) := by
  obtain ⟨m, rfl⟩ : ∃ m, n = m + 7 := ⟨n - 7, by omega⟩
  rw [Nat.add_sub_cancel, Int.pow_add]
  have : (2 : Int) ^ 7 = 128 := by decide
  omega
theorem rdU_lt : ∀ (l : List Int) (n : Nat), Byt l → 0 ≤ (rd VU okU l n).1 ∧ (rd VU okU l n).1 < 2 ^ n
  | [], n, _ => ⟨Int.le_refl _, Int.pow_pos (by decide)⟩
  | x :: r, n, h => by
    have hx := h x (by simp)
    have hp : (0 : Int) < 2 ^ n := Int.pow_pos (by decide)
    by_cases h1 : x < 128
    · cases h2 : okU x n
      · rw [rd_wrong h1 h2]; exact ⟨Int.le_refl _, hp⟩
      · rw [rd_last h1 h2]
        unfold okU at h2
        exact ⟨hx.1, of_decide_eq_true h2⟩
    · by_cases h2 : n ≤ 7
      · rw [rd_long h1 h2]; exact ⟨Int.le_refl _, hp⟩
      · rw [rd_more h1 h2]
        have ih := rdU_lt r (n - 7) (fun y hy => h y (by simp [hy]))
        unfold up
        by_cases k : (rd VU okU r (n - 7)).2.2 = 0
        · rw [if_pos k]
          rw [pow_7 n h2]
          show 0 ≤ x - 128 + 128 * (rd VU okU r (n - 7)).1 ∧ x - 128 + 128 * (rd VU okU r (n - 7)).1 < 128 * 2 ^ (n - 7)
          omega
        · rw [if_neg k]; exact ⟨Int.le_refl _, hp⟩
theorem liftU_lt {xs : List Int} (h : Byt xs) (k : Nat) (e : Int) : 0 ≤ (lift (rU 32) 0 xs k e).1 ∧ (lift (rU 32) 0 xs k e).1 < 4294967296 := by
  by_cases he : e = 0
  · subst he
    rw [lift_0]
    have := rdU_lt (xs.drop k) 32 (byt_dropS h k)
    have h2 : (2 : Int) ^ 32 = 4294967296 := by decide
    rw [h2] at this
    show 0 ≤ (rd VU okU (xs.drop k) 32).1 % 18446744073709551616 ∧ (rd VU okU (xs.drop k) 32).1 % 18446744073709551616 < 4294967296
    omega
  · rw [lift_e _ _ _ _ he]; exact ⟨Int.le_refl 0, by show (0 : Int) < _; decide⟩
/-- Any reading that is good, told by what a failure leaves. -/
theorem Gd.lift0 {A : Type} {f : Rr A} {z : A} (h : Gd f z) (xs : List Int) (k : Nat) : lift f z xs k 0 = (pk (f (xs.drop k)).2.2 (f (xs.drop k)).1 z, back (f (xs.drop k)).2.2 (k + (f (xs.drop k)).2.1) k, (f (xs.drop k)).2.2) := by
  rw [lift_0]
  by_cases he : (f (xs.drop k)).2.2 = 0
  · rw [he, pk_0, back_0]
  · rw [pk_e he, back_e he, h.nrm _ he]
    rfl
/-- A place where only a success is told of. -/
theorem lift_any {A : Type} {f : Rr A} {z : A} (h : Gd f z) (xs : List Int) (k k1 : Nat) (y : A) (e1 : Int) (he : e1 = (f (xs.drop k)).2.2) (hk : e1 = 0 → k1 = k + (f (xs.drop k)).2.1 ∧ y = (f (xs.drop k)).1) :
    lift f z xs k 0 = (pk e1 y z, back e1 k1 k, e1) := by
  rw [h.lift0, ← he]
  by_cases h0 : e1 = 0
  · obtain ⟨q1, q2⟩ := hk h0
    rw [h0, pk_0, back_0, pk_0, back_0, q1, q2]
  · rw [pk_e h0, back_e h0, pk_e h0, back_e h0]
theorem lift_rB_lt {xs : List Int} (h : Byt xs) (k : Nat) (e : Int) : 0 ≤ (lift rB 0 xs k e).1 ∧ (lift rB 0 xs k e).1 < 256 := by
  by_cases he : e = 0
  · subst he
    rw [lift_0]
    have hb := byt_dropS h k
    cases hl : xs.drop k with
    | nil => exact ⟨Int.le_refl 0, by show (0 : Int) < _; decide⟩
    | cons x r => rw [hl] at hb; exact hb x (by simp)
  · rw [lift_e _ _ _ _ he]; exact ⟨Int.le_refl 0, by show (0 : Int) < _; decide⟩
theorem rL_1 (l : List Int) : rL 1 l = rB l := by
  cases l with
  | nil => rfl
  | cons x r =>
    show (if 1 ≤ r.length + 1 then (lsf [x], 1, 0) else (0, 0, 100)) = ((x, 1, 0) : Int × Nat × Int)
    rw [if_pos (by omega)]
    show (x + 256 * 0, 1, 0) = ((x, 1, 0) : Int × Nat × Int)
    rw [Int.mul_zero, Int.add_zero]
theorem lift_rL_1 (xs : List Int) (k : Nat) (e : Int) : lift (rL 1) 0 xs k e = lift rB 0 xs k e := by
  unfold lift
  rw [rL_1]
theorem lsf_app (l : List Int) (x : Int) : lsf (l ++ [x]) = lsf l + 256 ^ l.length * x := by
  induction l with
  | nil => show x + 256 * 0 = 0 + 256 ^ 0 * x; omega
  | cons y r ih =>
    show y + 256 * lsf (r ++ [x]) = y + 256 * lsf r + 256 ^ (r.length + 1) * x
    rw [ih, Int.pow_succ, Int.mul_add, Int.add_assoc, Int.mul_comm (256 ^ r.length) 256, Int.mul_assoc]
theorem lsf_lt {l : List Int} (h : Byt l) : 0 ≤ lsf l ∧ lsf l < 256 ^ l.length := by
  induction l with
  | nil => exact ⟨Int.le_refl _, by decide⟩
  | cons y r ih =>
    have hy := h y (by simp)
    have ih := ih (fun z hz => h z (by simp [hz]))
    show 0 ≤ y + 256 * lsf r ∧ y + 256 * lsf r < 256 ^ (r.length + 1)
    rw [Int.pow_succ]
    omega
end Go.Proofs.YtjoonmpjcophnaaGreatDoor
namespace Go.Proofs.YtjoonmpjcophnaaGreatDoor
open Go.RowKit

theorem hide {p : Prop} (h : p) : Hid p := h
theorem unhide {p : Prop} (h : Hid p) : p := h
/-- What a function answers, in every world. -/
def Ct (f : Nat) (args : Array Value) (res : Value) : Prop := Hid (∀ W, Calls Tryz.prog f args W fun r W' => r = .returned res ∧ Below W.heap.size W W')
theorem bthen {a b c : World} (h : Below a.heap.size a b) (k : Below b.heap.size b c) : Below a.heap.size a c := h.trans (k.mono h.size)
theorem balloc {a b : World} (h : Below a.heap.size a b) (o : Obj) : Below a.heap.size a (b.alloc o) := h.alloc h.size o
theorem below1 (w : World) (o1 : Obj) : Below w.heap.size w (w.alloc o1) := (Below.refl _ _).alloc (Nat.le_refl _) _
theorem below2 (w : World) (o1 o2 : Obj) : Below w.heap.size w ((w.alloc o1).alloc o2) := ((Below.refl _ _).alloc (Nat.le_refl _) _).alloc (by simp) _
/-- The sizes of a width's fields, with the powers of two that go with them: P of the fraction, Q of the exponent, and the bias. -/
def Sz (e f P Q b : Int) : Prop := (e = 8 ∧ f = 23 ∧ P = 8388608 ∧ Q = 256 ∧ b = 127) ∨ (e = 11 ∧ f = 52 ∧ P = 4503599627370496 ∧ Q = 2048 ∧ b = 1023) ∨ (e = 0 ∧ f = 0 ∧ P = 1 ∧ Q = 1 ∧ b = -1)
def Wd (w e f P Q b : Int) : Prop := (w = 32 ∧ e = 8 ∧ f = 23 ∧ P = 8388608 ∧ Q = 256 ∧ b = 127) ∨ (w = 64 ∧ e = 11 ∧ f = 52 ∧ P = 4503599627370496 ∧ Q = 2048 ∧ b = 1023) ∨ ((w ≠ 32 ∧ w ≠ 64) ∧ e = 0 ∧ f = 0 ∧ P = 1 ∧ Q = 1 ∧ b = -1)
theorem Wd.sz {w e f P Q b : Int} (h : Wd w e f P Q b) : Sz e f P Q b := by
  rcases h with h | h | h
  · exact Or.inl h.2
  · exact Or.inr (Or.inl h.2)
  · exact Or.inr (Or.inr h.2)
theorem bcell {W w1 : World} (hb : Below W.heap.size W w1) (b o : Nat) (h : b < W.heap.size) : w1.cell? ⟨b, o, none⟩ = W.cell? ⟨b, o, none⟩ := hb.cell (p := ⟨b, o, none⟩) h
theorem keep1 {W w' : World} {b o : Nat} {x : Value} (hb : Below W.heap.size W w') (hz : b < W.heap.size) (h : W.cell? ⟨b, o, none⟩ = some x) : w'.cell? ⟨b, o, none⟩ = some x := by rw [bcell hb b o hz]; exact h
theorem lt_of_cell {W : World} {b o : Nat} {x : Value} (h : W.cell? ⟨b, o, none⟩ = some x) : b < W.heap.size := by
  apply Decidable.byContradiction
  intro hn
  simp [World.cell?, Nat.le_of_not_lt hn] at h
/-- A block that holds two values. -/
def At2 (b : Nat) (x y : Value) (w : World) : Prop := w.cell? ⟨b, 0, none⟩ = some x ∧ w.cell? ⟨b, 1, none⟩ = some y
def At5 (b : Nat) (x y z u v : Value) (w : World) : Prop := w.cell? ⟨b, 0, none⟩ = some x ∧ w.cell? ⟨b, 1, none⟩ = some y ∧ w.cell? ⟨b, 2, none⟩ = some z ∧ w.cell? ⟨b, 3, none⟩ = some u ∧ w.cell? ⟨b, 4, none⟩ = some v
theorem At2.below {b : Nat} {x y : Value} {w w' : World} (h : At2 b x y w) (hb : Below w.heap.size w w') : At2 b x y w' :=
  have hz := lt_of_cell h.1
  ⟨keep1 hb hz h.1, keep1 hb hz h.2⟩
theorem At5.below {b : Nat} {x y z u v : Value} {w w' : World} (h : At5 b x y z u v w) (hb : Below w.heap.size w w') : At5 b x y z u v w' :=
  have hz := lt_of_cell h.1
  ⟨keep1 hb hz h.1, keep1 hb hz h.2.1, keep1 hb hz h.2.2.1, keep1 hb hz h.2.2.2.1, keep1 hb hz h.2.2.2.2⟩

theorem i64_id {x : Int} (h1 : -9223372036854775808 ≤ x) (h2 : x < 9223372036854775808) : IntKind.i64.wrap x = x := by
  simp only [IntKind.wrap, IntKind.bits, IntKind.signed]
  simp
  omega

section
variable {P : Program} {ops : Array Oper} {Q : Exit → Act → World → Prop} {md : Region.Mode} {S : World → Prop}
end
/-- What is kept where only new memory is touched. -/
def Stable (T : World → Prop) : Prop := ∀ w w', T w → Below w.heap.size w w' → T w'
theorem Stable.and {A B : World → Prop} (ha : Stable A) (hb : Stable B) : Stable (fun w => A w ∧ B w) := fun w w' h k => ⟨ha w w' h.1 k, hb w w' h.2 k⟩
/-- A block that can be written. -/
def Room (b n : Nat) (w : World) : Prop := ∀ o, o < n → (∃ v, w.cell? ⟨b, o, none⟩ = some v) ∧ w.frozen? ⟨b, o, none⟩ = false
theorem stable_room (b n : Nat) : Stable (Room b n) := fun w _ h k o ho => by
  obtain ⟨⟨v, h1⟩, h2⟩ := h o ho
  have hz := World.block_lt_of_cell? w _ h1
  exact ⟨⟨v, (k.cell hz).trans h1⟩, (k.frozen hz).trans h2⟩
theorem Room.below {b n : Nat} {w w' : World} (h : Room b n w) (hb : Below w.heap.size w w') : Room b n w' := stable_room b n w w' h hb
theorem Room.drew {b n : Nat} {w : World} (h : Room b n w) : Room b n w.drew := h.below ((Below.refl _ _).drew)
theorem Room.alloc {b n : Nat} {w : World} (h : Room b n w) (o : Obj) : Room b n (w.alloc o) := h.below (below1 w o)

/-- Nothing is asked of a world. -/
def Free (_ : World) : Prop := True
theorem free (w : World) : Free w := True.intro

theorem frozen_set (w : World) (p q : Addr) (v : Value) : (w.setCell p v).frozen? q = w.frozen? q := by simp [go_sem]
theorem Room.set {b n : Nat} {w : World} (h : Room b n w) (o' : Nat) (v : Value) : Room b n (w.setCell ⟨b, o', none⟩ v) := fun o ho => by
  obtain ⟨⟨u, h1⟩, h2⟩ := h o ho
  refine ⟨?_, by rw [frozen_set]; exact h2⟩
  by_cases he : o = o'
  · subst he; exact ⟨v, World.cell?_setCell_same _ _ _ h1⟩
  · exact ⟨u, by rw [World.cell?_setCell_other _ _ _ _ (by intro hh; injection hh with _ h3; exact he h3.symm)]; exact h1⟩
theorem and_mask (k : Nat) (z m : Int) (h0 : 0 ≤ z) (h1 : z < 18446744073709551616) (hm : m = ((2 ^ k - 1 : Nat) : Int)) (hk : k ≤ 63) : bits .and .u64 z m = z % ((2 ^ k : Nat) : Int) := by
  obtain ⟨Z, rfl⟩ := Int.eq_ofNat_of_zero_le h0
  have hp : 2 ^ k ≤ 2 ^ 63 := Nat.pow_le_pow_right (by omega) hk
  rw [hm, Go.bits_and_u64_nat Z (2 ^ k - 1) (by omega) (by omega), Nat.and_two_pow_sub_one_eq_mod, Int.natCast_emod]

end Go.Proofs.YtjoonmpjcophnaaGreatDoor
namespace Go.Proofs.YtjoonmpjcophnaaGreatDoor
open Go.RowKit

section
variable {P : Program} {ops : Array Oper} {Q : Exit → Act → World → Prop} {md : Region.Mode} {S : World → Prop}
/-- The first n bits of a number. -/
def lsb : Nat → Nat → List Bool
  | 0, _ => []
  | n + 1, m => (m % 2 == 1) :: lsb n (m / 2)
def lst (n m : Nat) : Array Bool := ⟨lsb n m⟩
theorem lst0 (n : Nat) {fuel : Nat} {listed : Array Bool} {a : Act} {w : World} (h : listed = lst n 0) (k : wpAnyH P md ops Q S fuel (lst n 0) a w) : wpAnyH P md ops Q S fuel listed a w := h ▸ k
/-- An operation that reads is taken: number i, into slot d; m' has come up then. -/
theorem tkH (i d m' : Nat) (v : Value) {op : Op} {ty : TypeId} {pos : String} {af : Array Edge} {g : Option (Nat × Bool)} {n m fuel : Nat} {a : Act} {w : World} (hi : ops[i]? = some ⟨some d, op, ty, pos, af, g⟩)
    (hc : (Region.noSelect ops && Region.free md ops (lst n m) i && (Region.ready md ops (lst n m)).contains i) = true) (he : (lst n m).setIfInBounds i true = lst n m')
    (hQ : ∀ c a w, Q (.panic c) (a.put (some d) v) w → Q (.panic c) a w) (hS : S w) (hy : YieldsIf P ops S ⟨some d, op, ty, pos, af, g⟩ v a)
    (h : wpAnyH P md ops Q S fuel (lst n m') (a.put (some d) v) w) : wpAnyH P md ops Q S (fuel + 1) (lst n m) a w := by
  simp only [Bool.and_eq_true] at hc
  refine wpAnyH_take hi hc.1.1 hc.1.2 hc.2 hQ hy hS ?_
  rw [he]
  exact h
/-- The only one that may come up. -/
theorem rdH (i m' : Nat) {ds : Option Tmp} {op : Op} {ty : TypeId} {pos : String} {af : Array Edge} {g : Option (Nat × Bool)} {n m fuel : Nat} {a : Act} {w : World} (hi : ops[i]? = some ⟨ds, op, ty, pos, af, g⟩)
    (hr : Region.ready md ops (lst n m) = [i]) (he : (lst n m).setIfInBounds i true = lst n m')
    (h : ∀ K' : Act → World → Prop, Shut (∀ a w, S w → (S w → wpAnyH P md ops Q S fuel (lst n m') a w) → K' a w) → if Region.wanted ⟨ds, op, ty, pos, af, g⟩ (yielded ops a.tmps) = true then Oper.wp P ⟨ds, op, ty, pos, af, g⟩ a w K' Q else K' (a.put ds undef) w) : wpAnyH P md ops Q S (fuel + 1) (lst n m) a w :=
  wpAnyH_ready hr (by simp) (AllReadyH.cons hi (fun K' hK => h K' (by rw [he] at hK; exact hK)) AllReadyH.nil)
/-- An operation that reads is taken: number i, into slot d; m' has come up then. -/
theorem tkA (i d m' : Nat) {v : Value} {op : Op} {ty : TypeId} {pos : String} {af : Array Edge} {g : Option (Nat × Bool)} {n m fuel : Nat} {a a' : Act} {w : World}
    (h : wpAnyH P md ops Q S fuel (lst n m') a' w)
    (hi : ops[i]? = some ⟨some d, op, ty, pos, af, g⟩ := by rfl)
    (hc : (Region.noSelect ops && Region.free md ops (lst n m) i && (Region.ready md ops (lst n m)).contains i) = true := by kernel_rfl)
    (he : (lst n m).setIfInBounds i true = lst n m' := by kernel_rfl)
    (hQ : ∀ c a w, Q (.panic c) (a.put (some d) v) w → Q (.panic c) a w := by exact fun _ _ _ h => h)
    (hS : S w := by assumption)
    (hy : YieldsIf P ops S ⟨some d, op, ty, pos, af, g⟩ v a := by (refine Or.inl ⟨by rfl, ?_⟩; ((intro w hSw; (try dsimp only at hSw); go_simp) <;> with_reducible rfl)))
    (ha : a.put (some d) v = a' := by ((try simp only [Act.put, List.setIfInBounds_toArray, List.set_cons_zero, List.set_cons_succ]); rfl)) :
    wpAnyH P md ops Q S (fuel + 1) (lst n m) a w := by
  subst ha
  exact tkH i d m' v hi hc he hQ hS hy h
/-- The only one that may come up. -/
theorem rdA (i m' : Nat) {ds : Option Tmp} {op : Op} {ty : TypeId} {pos : String} {af : Array Edge} {g : Option (Nat × Bool)} {n m fuel : Nat} {a : Act} {w : World}
    (h : ∀ K' : Act → World → Prop, Shut (∀ a w, S w → (S w → wpAnyH P md ops Q S fuel (lst n m') a w) → K' a w) → if Region.wanted ⟨ds, op, ty, pos, af, g⟩ (yielded ops a.tmps) = true then Oper.wp P ⟨ds, op, ty, pos, af, g⟩ a w K' Q else K' (a.put ds undef) w)
    (hi : ops[i]? = some ⟨ds, op, ty, pos, af, g⟩ := by rfl) (hr : Region.ready md ops (lst n m) = [i] := by kernel_rfl) (he : (lst n m).setIfInBounds i true = lst n m' := by kernel_rfl) : wpAnyH P md ops Q S (fuel + 1) (lst n m) a w := rdH i m' hi hr he h
end

end Go.Proofs.YtjoonmpjcophnaaGreatDoor
namespace Go.Proofs.YtjoonmpjcophnaaGreatDoor
open Go.RowKit

theorem get_at {α : Type} (L : List α) (d : α) (i : Nat) (h : i < L.length) : L[i]? = some (L.getD i d) := by
  rw [List.getD_eq_getElem?_getD, List.getElem?_eq_getElem h]; rfl
end Go.Proofs.YtjoonmpjcophnaaGreatDoor
namespace Go.Proofs.YtjoonmpjcophnaaGreatDoor
open Go.RowKit

/-- What lies in a block, cell by cell. -/
def Tab (W : World) (g : Nat) (L : List Value) : Prop := ∀ j v, L[j]? = some v → W.cell? ⟨g, j, none⟩ = some v
theorem Tab.below {w w' : World} {g : Nat} {L : List Value} (h : Tab w g L) (hb : Below w.heap.size w w') : Tab w' g L := fun j v hv => keep1 hb (lt_of_cell (h j v hv)) (h j v hv)
end Go.Proofs.YtjoonmpjcophnaaGreatDoor
namespace Go.Proofs.YtjoonmpjcophnaaGreatDoor
open Go.RowKit

def codL : List Int := [0, 1, 2, 3, 4, 5, 11, 12, 13, 14, 15, 16, 17, 26, 27, 32, 33, 34, 35, 36, 63, 64, 65, 66, 67, 68]
def immL : List Int := [0, 0, 1, 1, 1, 12, 12, 2, 2, 3, 0, 4, 5, 0, 0, 4, 4, 4, 4, 4, 7, 7, 8, 9, 10, 11]
end Go.Proofs.YtjoonmpjcophnaaGreatDoor
namespace Go.Proofs.YtjoonmpjcophnaaGreatDoor
open Go.RowKit

theorem first_at (op : Int) : ∀ n, (∃ k, k < n ∧ codL.getD k 0 = op ∧ ∀ j, j < k → codL.getD j 0 ≠ op) ∨ ∀ j, j < n → codL.getD j 0 ≠ op
  | 0 => .inr (fun _ h => absurd h (by omega))
  | n + 1 => by
    rcases first_at op n with ⟨k, h1, h2, h3⟩ | h
    · exact .inl ⟨k, by omega, h2, h3⟩
    · by_cases e : codL.getD n 0 = op
      · exact .inl ⟨n, by omega, e, h⟩
      · refine .inr fun j hj => ?_
        by_cases hjn : j = n
        · subst hjn; exact e
        · exact h j (by omega)
end Go.Proofs.YtjoonmpjcophnaaGreatDoor
namespace Go.Proofs.YtjoonmpjcophnaaGreatDoor
open Go.RowKit

def gL : List Value := [.int .i64 69, .int .i64 11, .int .i64 0, .int .u8 127, .int .i64 80, .int .i64 11, .int .i64 0, .int .u8 126, .int .i64 91, .int .i64 6, .int .i64 1, .int .u8 125, .int .i64 97, .int .i64 6, .int .i64 1, .int .u8 124, .int .i64 103, .int .i64 18, .int .i64 2, .int .u8 127, .int .i64 121, .int .i64 18, .int .i64 2, .int .u8 126, .int .i64 139, .int .i64 14, .int .i64 3, .int .u8 125, .int .i64 153, .int .i64 14, .int .i64 3, .int .u8 124, .int .i64 167, .int .i64 25, .int .i64 4, .int .u8 0, .int .i64 64512, .int .i64 8, .int .i64 5, .int .u8 0]
def cL : List Value := [126, 127, 125, 127, 125, 127, 124, 127, 124, 127, 127, 126, 127, 126, 125, 126, 125, 126, 124, 126, 124, 126, 127, 125, 127, 125, 126, 125, 126, 125, 124, 125, 127, 124, 127, 124, 126, 124, 126, 124, 125, 124, 125, 127, 124, 126, 127, 125, 126, 124].map fun n : Int => .int .u8 n
def sL : List Value := [125, 127, 125, 127, 124, 127, 124, 127, 125, 126, 125, 126, 124, 126, 124, 126].map fun n : Int => .int .u8 n
structure Mk (W : World) : Prop where
  groups : Tab W 1 gL
  changed : Tab W 2 cL
  stopped : Tab W 3 sL
theorem Mk.below {w w' : World} (h : Mk w) (hb : Below w.heap.size w w') : Mk w' :=
  ⟨h.groups.below hb, h.changed.below hb, h.stopped.below hb⟩
/-- What a function answers where the variables hold that. -/
def Cm (f : Nat) (args : Array Value) (res : Value) : Prop := Hid (∀ W, Mk W → Calls Tryz.prog f args W fun r W' => r = .returned res ∧ Below W.heap.size W W')
theorem Ct.m {f : Nat} {args : Array Value} {res : Value} (h : Ct f args res) : Cm f args res := fun W _ => h W
end Go.Proofs.YtjoonmpjcophnaaGreatDoor
namespace Go.Proofs.YtjoonmpjcophnaaGreatDoor
open Go.RowKit

theorem one_l (l a : Int) : Ct 193 #[.int .i64 l, .int .i64 a] (.int .i64 (if a ≤ l then 1 else 2)) := by
  refine hide (fun W => ?_)
  by_cases h : a ≤ l
  · rw [if_pos h]
    go_enter Tryz.func193, Tryz.ntmps193
    go_wp2_with fail
    go_ret
    exact ⟨rfl, Below.refl _ _⟩
  · rw [if_neg h]
    go_enter Tryz.func193, Tryz.ntmps193
    go_wp2_with fail
    go_ret
    exact ⟨rfl, Below.refl _ _⟩
set_option maxHeartbeats 4000000 in
set_option maxRecDepth 100000 in
theorem types_0 (f n o a : Int) : Ct 191 #[.agg #[.int .i64 f, .int .i64 n, .int .i64 0, .int .u8 o], .int .i64 a] (.agg #[.int .u8 o, .int .u8 127]) := by
  refine hide (fun W => ?_)
  go_enter Tryz.func191, Tryz.ntmps191
  go_wp2_with fail
  exact bodyPost_ret (v := .agg #[.int .u8 o, .int .u8 127]) (by simp [results, Tryz.results191, go_sem]) rfl ⟨rfl, below2 _ _ _⟩
set_option maxHeartbeats 4000000 in
set_option maxRecDepth 100000 in
theorem types_1 (f n o a : Int) : Ct 191 #[.agg #[.int .i64 f, .int .i64 n, .int .i64 1, .int .u8 o], .int .i64 a] (.agg #[.int .u8 o, .int .u8 127]) := by
  refine hide (fun W => ?_)
  go_enter Tryz.func191, Tryz.ntmps191
  go_wp2_with fail
  exact bodyPost_ret (v := .agg #[.int .u8 o, .int .u8 127]) (by simp [results, Tryz.results191, go_sem]) rfl ⟨rfl, below2 _ _ _⟩
set_option maxHeartbeats 4000000 in
set_option maxRecDepth 100000 in
theorem types_2 (f n o a : Int) : Ct 191 #[.agg #[.int .i64 f, .int .i64 n, .int .i64 2, .int .u8 o], .int .i64 a] (.agg #[.int .u8 o, .int .u8 o]) := by
  refine hide (fun W => ?_)
  go_enter Tryz.func191, Tryz.ntmps191
  go_wp2_with fail
  exact bodyPost_ret (v := .agg #[.int .u8 o, .int .u8 o]) (by simp [results, Tryz.results191, go_sem]) rfl ⟨rfl, below2 _ _ _⟩
set_option maxHeartbeats 4000000 in
set_option maxRecDepth 100000 in
theorem types_3 (f n o a : Int) : Ct 191 #[.agg #[.int .i64 f, .int .i64 n, .int .i64 3, .int .u8 o], .int .i64 a] (.agg #[.int .u8 o, .int .u8 o]) := by
  refine hide (fun W => ?_)
  go_enter Tryz.func191, Tryz.ntmps191
  go_wp2_with fail
  exact bodyPost_ret (v := .agg #[.int .u8 o, .int .u8 o]) (by simp [results, Tryz.results191, go_sem]) rfl ⟨rfl, below2 _ _ _⟩
set_option maxHeartbeats 4000000 in
set_option maxRecDepth 100000 in
theorem types_4 (f n o : Int) {x y : Int} {a : Nat} (h : a < 25) (hx : cL[a * 2]? = some (.int .u8 x)) (hy : cL[a * 2 + 1]? = some (.int .u8 y)) : Cm 191 #[.agg #[.int .i64 f, .int .i64 n, .int .i64 4, .int .u8 o], .int .i64 (a : Int)] (.agg #[.int .u8 x, .int .u8 y]) := by
  refine hide (fun W m => ?_)
  have c0 := fun o1 o2 => keep1 (below2 W o1 o2) (lt_of_cell (m.changed _ _ hx)) (m.changed _ _ hx)
  have c1 := fun o1 o2 => keep1 (below2 W o1 o2) (lt_of_cell (m.changed _ _ hy)) (m.changed _ _ hy)
  clear hx hy m
  go_enter Tryz.func191, Tryz.ntmps191
  go_wp2_with fail
  exact bodyPost_ret (v := .agg #[.int .u8 x, .int .u8 y]) (by simp [results, Tryz.results191, go_sem]) rfl ⟨rfl, below2 _ _ _⟩
set_option maxHeartbeats 4000000 in
set_option maxRecDepth 100000 in
theorem types_5 (f n o : Int) {x y : Int} {a : Nat} (h : a < 8) (hx : sL[a * 2]? = some (.int .u8 x)) (hy : sL[a * 2 + 1]? = some (.int .u8 y)) : Cm 191 #[.agg #[.int .i64 f, .int .i64 n, .int .i64 5, .int .u8 o], .int .i64 (a : Int)] (.agg #[.int .u8 x, .int .u8 y]) := by
  refine hide (fun W m => ?_)
  have c0 := fun o1 o2 => keep1 (below2 W o1 o2) (lt_of_cell (m.stopped _ _ hx)) (m.stopped _ _ hx)
  have c1 := fun o1 o2 => keep1 (below2 W o1 o2) (lt_of_cell (m.stopped _ _ hy)) (m.stopped _ _ hy)
  clear hx hy m
  go_enter Tryz.func191, Tryz.ntmps191
  go_wp2_with fail
  exact bodyPost_ret (v := .agg #[.int .u8 x, .int .u8 y]) (by simp [results, Tryz.results191, go_sem]) rfl ⟨rfl, below2 _ _ _⟩
end Go.Proofs.YtjoonmpjcophnaaGreatDoor
