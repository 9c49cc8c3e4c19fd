/- Two that read side by side; a step of any kind. -/
import Derived.Test.YtphgljhlamjmgaaLawB
namespace Go.Proofs.Ytphgljhlamjmgaa
open Go.RowKit

/-- Two cursors, each apart from the other and from the other's bytes. -/
def Tw (c : Nat) (a : Option Addr) (len cap : Nat) (xs : List Int) (k : Nat) (e : Int) (r : Nat) (b : Option Addr) (lem cbp : Nat) (ys : List Int) (j : Nat) (f : Int) (w : World) : Prop :=
  Cs c a len cap xs k e w ∧ Cs r b lem cbp ys j f w ∧ c ≠ r ∧ (∀ p, a = some p → 0 < len → p.block ≠ r) ∧ (∀ p, b = some p → 0 < lem → p.block ≠ c)
theorem Tw.left {c : Nat} {a : Option Addr} {len cap k : Nat} {xs : List Int} {e : Int} {r : Nat} {b : Option Addr} {lem cbp j : Nat} {ys : List Int} {f : Int} {k1 : Nat} {e1 : Int} {w w' : World} (h : Tw c a len cap xs k e r b lem cbp ys j f w) (hC : Cs c a len cap xs k1 e1 w') (hF : Fr [c] w w') : Tw c a len cap xs k1 e1 r b lem cbp ys j f w' :=
  ⟨hC, h.2.1.fr hF (by simpa using h.2.2.1.symm) (fun p hp h0 => by simpa using h.2.2.2.2 p hp h0), h.2.2⟩
theorem Tw.right {c : Nat} {a : Option Addr} {len cap k : Nat} {xs : List Int} {e : Int} {r : Nat} {b : Option Addr} {lem cbp j : Nat} {ys : List Int} {f : Int} {j1 : Nat} {f1 : Int} {w w' : World} (h : Tw c a len cap xs k e r b lem cbp ys j f w) (hC : Cs r b lem cbp ys j1 f1 w') (hF : Fr [r] w w') : Tw c a len cap xs k e r b lem cbp ys j1 f1 w' :=
  ⟨h.1.fr hF (by simpa using h.2.2.1) (fun p hp h0 => by simpa using h.2.2.2.1 p hp h0), hC, h.2.2⟩
theorem Tw.bel {c : Nat} {a : Option Addr} {len cap k : Nat} {xs : List Int} {e : Int} {r : Nat} {b : Option Addr} {lem cbp j : Nat} {ys : List Int} {f : Int} {w w' : World} (h : Tw c a len cap xs k e r b lem cbp ys j f w) (hb : Below w.heap.size w w') : Tw c a len cap xs k e r b lem cbp ys j f w' := ⟨h.1.bel hb, h.2.1.bel hb, h.2.2⟩
/-- And all else is as it was in a world. -/
def St (Wb : World) (c : Nat) (a : Option Addr) (len cap : Nat) (xs : List Int) (k : Nat) (e : Int) (r : Nat) (b : Option Addr) (lem cbp : Nat) (ys : List Int) (j : Nat) (f : Int) (w : World) : Prop :=
  Tw c a len cap xs k e r b lem cbp ys j f w ∧ Fr [c, r] Wb w
theorem St.bel {Wb : World} {c : Nat} {a : Option Addr} {len cap k : Nat} {xs : List Int} {e : Int} {r : Nat} {b : Option Addr} {lem cbp j : Nat} {ys : List Int} {f : Int} {w w' : World} (h : St Wb c a len cap xs k e r b lem cbp ys j f w) (hb : Below w.heap.size w w') : St Wb c a len cap xs k e r b lem cbp ys j f w' := ⟨h.1.bel hb, h.2.bel hb⟩
theorem St.left {Wb : World} {c : Nat} {a : Option Addr} {len cap k : Nat} {xs : List Int} {e : Int} {r : Nat} {b : Option Addr} {lem cbp j : Nat} {ys : List Int} {f : Int} {k1 : Nat} {e1 : Int} {w w' : World} (h : St Wb c a len cap xs k e r b lem cbp ys j f w) (hC : Cs c a len cap xs k1 e1 w') (hF : Fr [c] w w') : St Wb c a len cap xs k1 e1 r b lem cbp ys j f w' :=
  ⟨h.1.left hC hF, h.2.trans (hF.mono (by simp))⟩
theorem St.right {Wb : World} {c : Nat} {a : Option Addr} {len cap k : Nat} {xs : List Int} {e : Int} {r : Nat} {b : Option Addr} {lem cbp j : Nat} {ys : List Int} {f : Int} {j1 : Nat} {f1 : Int} {w w' : World} (h : St Wb c a len cap xs k e r b lem cbp ys j f w) (hC : Cs r b lem cbp ys j1 f1 w') (hF : Fr [r] w w') : St Wb c a len cap xs k e r b lem cbp ys j1 f1 w' :=
  ⟨h.1.right hC hF, h.2.trans (hF.mono (by simp))⟩
theorem ds_l {Wb : World} {c : Nat} {a : Option Addr} {len cap k : Nat} {xs : List Int} {e : Int} {r : Nat} {b : Option Addr} {lem cbp j : Nat} {ys : List Int} {f : Int} {k1 : Nat} {e1 : Int} {F : Nat} {ar : Array Value} {v : Value} (H : ∀ w, Cs c a len cap xs k e w → Calls Try.prog F ar w fun r w' => r = .returned v ∧ Cs c a len cap xs k1 e1 w' ∧ Fr [c] w w') :
    Ds F ar (St Wb c a len cap xs k e r b lem cbp ys j f) (St Wb c a len cap xs k1 e1 r b lem cbp ys j f) v := hide fun w h => by
  refine (H w h.1.1).mono ?_
  rintro _ w' ⟨rfl, hC, hF⟩
  exact ⟨rfl, h.left hC hF⟩
theorem ds_r {Wb : World} {c : Nat} {a : Option Addr} {len cap k : Nat} {xs : List Int} {e : Int} {r : Nat} {b : Option Addr} {lem cbp j : Nat} {ys : List Int} {f : Int} {j1 : Nat} {f1 : Int} {F : Nat} {ar : Array Value} {v : Value} (H : ∀ w, Cs r b lem cbp ys j f w → Calls Try.prog F ar w fun q w' => q = .returned v ∧ Cs r b lem cbp ys j1 f1 w' ∧ Fr [r] w w') :
    Ds F ar (St Wb c a len cap xs k e r b lem cbp ys j f) (St Wb c a len cap xs k e r b lem cbp ys j1 f1) v := hide fun w h => by
  refine (H w h.1.2.1).mono ?_
  rintro _ w' ⟨rfl, hC, hF⟩
  exact ⟨rfl, h.right hC hF⟩
/-- What a failure is. -/
def clq (n : Int) : Int := if n ≤ 0 then 0 else if n ≤ 1000 then n else 1000
/-- Where a step of any kind ends, and the failure behind it. -/
def stp (K n : Int) (xs : List Int) (k : Nat) (e : Int) : Nat × Int :=
  if K = 1 then (lift rB 0 xs k e).2 else if K = 2 then (lift (rU 32) 0 xs k e).2 else if K = 3 then (lift (rS 32) 0 xs k e).2 else if K = 4 then (lift (rS 64) 0 xs k e).2
  else if K = 5 then (if n = 4 then (lift (rL 4) 0 xs k e).2 else if n = 8 then (lift (rL 8) 0 xs k e).2 else (lift rArg 0 xs k e).2)
  else if K = 6 then (lift (rP (clp n)) [] xs k e).2 else if K = 7 then (lift rName [] xs k e).2 else if K = 8 then (lift rCount 0 xs k e).2 else if K = 9 then (lift rValue 0 xs k e).2
  else if K = 10 then (lift (rOne [127, 126, 125, 124, 64] 106) 0 xs k e).2 else if K = 11 then (lift rLimits (0, 0, false) xs k e).2 else if K = 12 then (lift rGlobal (0, false) xs k e).2
  else if K = 13 then (lift rTable (0, 0, false) xs k e).2 else if K = 14 then (lift rFunc ([], []) xs k e).2 else if K = 15 then (k, if e = 0 then clq n else e) else (k, e)
theorem st_box {c : Nat} {a : Option Addr} {len cap k : Nat} {xs : List Int} {e : Int} {r : Nat} {b : Option Addr} {lem cbp j : Nat} {ys : List Int} {f : Int} {W : World} (K n : Int) (h : Tw c a len cap xs k e r b lem cbp ys j f W) : St (W.alloc (.cells #[.int .i64 K, .int .i64 n] 31)) c a len cap xs k e r b lem cbp ys j f (W.alloc (.cells #[.int .i64 K, .int .i64 n] 31)) := ⟨h.bel (below1 _ _), Fr.refl _ _⟩
theorem st_cell {c : Nat} {a : Option Addr} {len cap k : Nat} {xs : List Int} {e : Int} {r : Nat} {b : Option Addr} {lem cbp j : Nat} {ys : List Int} {f : Int} {W w : World} {K n : Int} (h : Tw c a len cap xs k e r b lem cbp ys j f W) {k1 : Nat} {e1 : Int} {j1 : Nat} {f1 : Int} (hS : St (W.alloc (.cells #[.int .i64 K, .int .i64 n] 31)) c a len cap xs k1 e1 r b lem cbp ys j1 f1 w) : w.cell? ⟨W.heap.size, 1, none⟩ = some (.int .i64 n) := by
  have h1 := h.1.1.lt
  have h2 := h.2.1.1.lt
  exact hS.2.keep (by simp [go_sem]) (by simp; omega)
theorem st_end {c : Nat} {a : Option Addr} {len cap k : Nat} {xs : List Int} {e : Int} {r : Nat} {b : Option Addr} {lem cbp j : Nat} {ys : List Int} {f : Int} {W w : World} {K n : Int} (h : St (W.alloc (.cells #[.int .i64 K, .int .i64 n] 31)) c a len cap xs k e r b lem cbp ys j f w) : Tw c a len cap xs k e r b lem cbp ys j f w ∧ Fr [c, r] W w := ⟨h.1, ((Fr.refl _ W).alloc _).trans h.2⟩
theorem sm_1 {c : Nat} {a : Option Addr} {len cap k : Nat} {xs : List Int} {e : Int} {r : Nat} {b : Option Addr} {lem cbp j : Nat} {ys : List Int} {f : Int} {n : Int} {W : World} (h : Tw c a len cap xs k e r b lem cbp ys j f W) :
    Calls Try.prog 25 #[.pointer (some ⟨c, 0, none⟩), .pointer (some ⟨r, 0, none⟩), .agg #[.int .i64 1, .int .i64 n]] W fun R w' => (∃ t, R = .returned (.bool t) ∧ ((xs = ys ∧ k = j ∧ e = f) → t = true)) ∧ Tw c a len cap xs (stp 1 n xs k e).1 (stp 1 n xs k e).2 r b lem cbp ys (stp 1 n ys j f).1 (stp 1 n ys j f).2 w' ∧ Fr [c, r] W w' := by
  refine (small_1 (n := n) (ds_l fun _ h => byte_any h) (ds_r fun _ h => rByte_any h) (hide (st_box 1 n h))).mono ?_
  rintro _ w ⟨⟨t, rfl, ht⟩, hS⟩
  exact ⟨⟨t, rfl, fun hh => ht (by obtain ⟨rfl, rfl, rfl⟩ := hh; rfl)⟩, st_end hS⟩
theorem sm_2 {c : Nat} {a : Option Addr} {len cap k : Nat} {xs : List Int} {e : Int} {r : Nat} {b : Option Addr} {lem cbp j : Nat} {ys : List Int} {f : Int} {n : Int} {W : World} (h : Tw c a len cap xs k e r b lem cbp ys j f W) :
    Calls Try.prog 25 #[.pointer (some ⟨c, 0, none⟩), .pointer (some ⟨r, 0, none⟩), .agg #[.int .i64 2, .int .i64 n]] W fun R w' => (∃ t, R = .returned (.bool t) ∧ ((xs = ys ∧ k = j ∧ e = f) → t = true)) ∧ Tw c a len cap xs (stp 2 n xs k e).1 (stp 2 n xs k e).2 r b lem cbp ys (stp 2 n ys j f).1 (stp 2 n ys j f).2 w' ∧ Fr [c, r] W w' := by
  refine (small_2 (n := n) (ds_l fun _ h => u32_any h) (ds_r fun _ h => rUint_any (b := 32) h (by decide) (by decide)) (liftU_lt h.1.2.2.2.1 k e).1 (liftU_lt h.1.2.2.2.1 k e).2 (hide (st_box 2 n h))).mono ?_
  rintro _ w ⟨⟨t, rfl, ht⟩, hS⟩
  exact ⟨⟨t, rfl, fun hh => ht (by obtain ⟨rfl, rfl, rfl⟩ := hh; rfl)⟩, st_end hS⟩
theorem sm_3 {c : Nat} {a : Option Addr} {len cap k : Nat} {xs : List Int} {e : Int} {r : Nat} {b : Option Addr} {lem cbp j : Nat} {ys : List Int} {f : Int} {n : Int} {W : World} (h : Tw c a len cap xs k e r b lem cbp ys j f W) :
    Calls Try.prog 25 #[.pointer (some ⟨c, 0, none⟩), .pointer (some ⟨r, 0, none⟩), .agg #[.int .i64 3, .int .i64 n]] W fun R w' => (∃ t, R = .returned (.bool t) ∧ ((xs = ys ∧ k = j ∧ e = f) → t = true)) ∧ Tw c a len cap xs (stp 3 n xs k e).1 (stp 3 n xs k e).2 r b lem cbp ys (stp 3 n ys j f).1 (stp 3 n ys j f).2 w' ∧ Fr [c, r] W w' := by
  refine (small_3 (n := n) (ds_l fun _ h => s32_any h) (ds_r fun _ h => rSint32_any h) (Int.emod_nonneg _ (by decide)) (Int.emod_lt_of_pos _ (by decide)) (hide (st_box 3 n h))).mono ?_
  rintro _ w ⟨⟨t, rfl, ht⟩, hS⟩
  exact ⟨⟨t, rfl, fun hh => ht (by obtain ⟨rfl, rfl, rfl⟩ := hh; rfl)⟩, st_end hS⟩
theorem sm_4 {c : Nat} {a : Option Addr} {len cap k : Nat} {xs : List Int} {e : Int} {r : Nat} {b : Option Addr} {lem cbp j : Nat} {ys : List Int} {f : Int} {n : Int} {W : World} (h : Tw c a len cap xs k e r b lem cbp ys j f W) :
    Calls Try.prog 25 #[.pointer (some ⟨c, 0, none⟩), .pointer (some ⟨r, 0, none⟩), .agg #[.int .i64 4, .int .i64 n]] W fun R w' => (∃ t, R = .returned (.bool t) ∧ ((xs = ys ∧ k = j ∧ e = f) → t = true)) ∧ Tw c a len cap xs (stp 4 n xs k e).1 (stp 4 n xs k e).2 r b lem cbp ys (stp 4 n ys j f).1 (stp 4 n ys j f).2 w' ∧ Fr [c, r] W w' := by
  refine (small_4 (n := n) (ds_l fun _ h => s64_any h) (ds_r fun _ h => rSint_any (b := 64) h (by decide) (by decide) (by decide)) (hide (st_box 4 n h))).mono ?_
  rintro _ w ⟨⟨t, rfl, ht⟩, hS⟩
  exact ⟨⟨t, rfl, fun hh => ht (by obtain ⟨rfl, rfl, rfl⟩ := hh; rfl)⟩, st_end hS⟩
theorem sm_7 {c : Nat} {a : Option Addr} {len cap k : Nat} {xs : List Int} {e : Int} {r : Nat} {b : Option Addr} {lem cbp j : Nat} {ys : List Int} {f : Int} {n : Int} {W : World} (h : Tw c a len cap xs k e r b lem cbp ys j f W) :
    Calls Try.prog 25 #[.pointer (some ⟨c, 0, none⟩), .pointer (some ⟨r, 0, none⟩), .agg #[.int .i64 7, .int .i64 n]] W fun R w' => (∃ t, R = .returned (.bool t) ∧ ((xs = ys ∧ k = j ∧ e = f) → t = true)) ∧ Tw c a len cap xs (stp 7 n xs k e).1 (stp 7 n xs k e).2 r b lem cbp ys (stp 7 n ys j f).1 (stp 7 n ys j f).2 w' ∧ Fr [c, r] W w' := by
  refine (small_7 (n := n) (ds_l fun _ h => name_any h) (ds_r fun _ h => rName_any h) (hide (st_box 7 n h))).mono ?_
  rintro _ w ⟨⟨t, rfl, ht⟩, hS⟩
  exact ⟨⟨t, rfl, fun hh => ht (by obtain ⟨rfl, rfl, rfl⟩ := hh; rfl)⟩, st_end hS⟩
theorem sm_8 {c : Nat} {a : Option Addr} {len cap k : Nat} {xs : List Int} {e : Int} {r : Nat} {b : Option Addr} {lem cbp j : Nat} {ys : List Int} {f : Int} {n : Int} {W : World} (h : Tw c a len cap xs k e r b lem cbp ys j f W) :
    Calls Try.prog 25 #[.pointer (some ⟨c, 0, none⟩), .pointer (some ⟨r, 0, none⟩), .agg #[.int .i64 8, .int .i64 n]] W fun R w' => (∃ t, R = .returned (.bool t) ∧ ((xs = ys ∧ k = j ∧ e = f) → t = true)) ∧ Tw c a len cap xs (stp 8 n xs k e).1 (stp 8 n xs k e).2 r b lem cbp ys (stp 8 n ys j f).1 (stp 8 n ys j f).2 w' ∧ Fr [c, r] W w' := by
  refine (small_8 (n := n) (ds_l fun _ h => count_any' h) (ds_r fun _ h => rCount_any h) (hide (st_box 8 n h))).mono ?_
  rintro _ w ⟨⟨t, rfl, ht⟩, hS⟩
  exact ⟨⟨t, rfl, fun hh => ht (by obtain ⟨rfl, rfl, rfl⟩ := hh; rfl)⟩, st_end hS⟩
theorem sm_9 {c : Nat} {a : Option Addr} {len cap k : Nat} {xs : List Int} {e : Int} {r : Nat} {b : Option Addr} {lem cbp j : Nat} {ys : List Int} {f : Int} {n : Int} {W : World} (h : Tw c a len cap xs k e r b lem cbp ys j f W) :
    Calls Try.prog 25 #[.pointer (some ⟨c, 0, none⟩), .pointer (some ⟨r, 0, none⟩), .agg #[.int .i64 9, .int .i64 n]] W fun R w' => (∃ t, R = .returned (.bool t) ∧ ((xs = ys ∧ k = j ∧ e = f) → t = true)) ∧ Tw c a len cap xs (stp 9 n xs k e).1 (stp 9 n xs k e).2 r b lem cbp ys (stp 9 n ys j f).1 (stp 9 n ys j f).2 w' ∧ Fr [c, r] W w' := by
  refine (small_9 (n := n) (ds_l fun _ h => value_any h) (ds_r fun _ h => rValue_any h) (hide (st_box 9 n h))).mono ?_
  rintro _ w ⟨⟨t, rfl, ht⟩, hS⟩
  exact ⟨⟨t, rfl, fun hh => ht (by obtain ⟨rfl, rfl, rfl⟩ := hh; rfl)⟩, st_end hS⟩
theorem sm_10 {c : Nat} {a : Option Addr} {len cap k : Nat} {xs : List Int} {e : Int} {r : Nat} {b : Option Addr} {lem cbp j : Nat} {ys : List Int} {f : Int} {n : Int} {W : World} (h : Tw c a len cap xs k e r b lem cbp ys j f W) :
    Calls Try.prog 25 #[.pointer (some ⟨c, 0, none⟩), .pointer (some ⟨r, 0, none⟩), .agg #[.int .i64 10, .int .i64 n]] W fun R w' => (∃ t, R = .returned (.bool t) ∧ ((xs = ys ∧ k = j ∧ e = f) → t = true)) ∧ Tw c a len cap xs (stp 10 n xs k e).1 (stp 10 n xs k e).2 r b lem cbp ys (stp 10 n ys j f).1 (stp 10 n ys j f).2 w' ∧ Fr [c, r] W w' := by
  refine (small_10 (n := n) (ds_l fun _ h => results_any h) (ds_r fun _ h => rResults_any h) (hide (st_box 10 n h))).mono ?_
  rintro _ w ⟨⟨t, rfl, ht⟩, hS⟩
  exact ⟨⟨t, rfl, fun hh => ht (by obtain ⟨rfl, rfl, rfl⟩ := hh; rfl)⟩, st_end hS⟩
theorem rdl_11 {c : Nat} {a : Option Addr} {len cap k : Nat} {xs : List Int} {e : Int} {r : Nat} {b : Option Addr} {lem cbp j : Nat} {ys : List Int} {f : Int} {n : Int} {W : World} (h : Tw c a len cap xs k e r b lem cbp ys j f W) :
    Calls Try.prog 9 #[.pointer (some ⟨c, 0, none⟩), .pointer (some ⟨r, 0, none⟩), .agg #[.int .i64 11, .int .i64 n]] W fun R w' => (∃ t, R = .returned (.bool t) ∧ ((xs = ys ∧ k = j ∧ e = f) → t = true)) ∧ Tw c a len cap xs (stp 11 n xs k e).1 (stp 11 n xs k e).2 r b lem cbp ys (stp 11 n ys j f).1 (stp 11 n ys j f).2 w' ∧ Fr [c, r] W w' := by
  refine (read_11 (n := n) (ds_l fun _ h => limits_any h) (ds_r fun _ h => rLimits_any h) (hide (st_box 11 n h))).mono ?_
  rintro _ w ⟨⟨t, rfl, ht⟩, hS⟩
  exact ⟨⟨t, rfl, fun hh => ht (by obtain ⟨rfl, rfl, rfl⟩ := hh; rfl)⟩, st_end hS⟩
theorem rdl_13 {c : Nat} {a : Option Addr} {len cap k : Nat} {xs : List Int} {e : Int} {r : Nat} {b : Option Addr} {lem cbp j : Nat} {ys : List Int} {f : Int} {n : Int} {W : World} (h : Tw c a len cap xs k e r b lem cbp ys j f W) :
    Calls Try.prog 9 #[.pointer (some ⟨c, 0, none⟩), .pointer (some ⟨r, 0, none⟩), .agg #[.int .i64 13, .int .i64 n]] W fun R w' => (∃ t, R = .returned (.bool t) ∧ ((xs = ys ∧ k = j ∧ e = f) → t = true)) ∧ Tw c a len cap xs (stp 13 n xs k e).1 (stp 13 n xs k e).2 r b lem cbp ys (stp 13 n ys j f).1 (stp 13 n ys j f).2 w' ∧ Fr [c, r] W w' := by
  refine (read_13 (n := n) (ds_l fun _ h => table_any h) (ds_r fun _ h => rTable_any h) (hide (st_box 13 n h))).mono ?_
  rintro _ w ⟨⟨t, rfl, ht⟩, hS⟩
  exact ⟨⟨t, rfl, fun hh => ht (by obtain ⟨rfl, rfl, rfl⟩ := hh; rfl)⟩, st_end hS⟩
theorem sm_54 {c : Nat} {a : Option Addr} {len cap k : Nat} {xs : List Int} {e : Int} {r : Nat} {b : Option Addr} {lem cbp j : Nat} {ys : List Int} {f : Int} {W : World} (h : Tw c a len cap xs k e r b lem cbp ys j f W) :
    Calls Try.prog 25 #[.pointer (some ⟨c, 0, none⟩), .pointer (some ⟨r, 0, none⟩), .agg #[.int .i64 5, .int .i64 4]] W fun R w' => (∃ t, R = .returned (.bool t) ∧ ((xs = ys ∧ k = j ∧ e = f) → t = true)) ∧ Tw c a len cap xs (stp 5 4 xs k e).1 (stp 5 4 xs k e).2 r b lem cbp ys (stp 5 4 ys j f).1 (stp 5 4 ys j f).2 w' ∧ Fr [c, r] W w' := by
  refine (small_5 (n := 4) (ds_l fun _ h => fixed4_any h) (ds_r fun _ h => rFixed4_any h) (hide fun _ hS => hS.bel ((Below.refl _ _).drew)) (hide fun _ hS => st_cell h hS) (hide fun _ hS => st_cell h hS) (hide fun _ hS => st_cell h hS) (hide (st_box 5 4 h))).mono ?_
  rintro _ w ⟨⟨t, rfl, ht⟩, hS⟩
  exact ⟨⟨t, rfl, fun hh => ht (by obtain ⟨rfl, rfl, rfl⟩ := hh; rfl)⟩, st_end hS⟩
theorem sm_58 {c : Nat} {a : Option Addr} {len cap k : Nat} {xs : List Int} {e : Int} {r : Nat} {b : Option Addr} {lem cbp j : Nat} {ys : List Int} {f : Int} {W : World} (h : Tw c a len cap xs k e r b lem cbp ys j f W) :
    Calls Try.prog 25 #[.pointer (some ⟨c, 0, none⟩), .pointer (some ⟨r, 0, none⟩), .agg #[.int .i64 5, .int .i64 8]] W fun R w' => (∃ t, R = .returned (.bool t) ∧ ((xs = ys ∧ k = j ∧ e = f) → t = true)) ∧ Tw c a len cap xs (stp 5 8 xs k e).1 (stp 5 8 xs k e).2 r b lem cbp ys (stp 5 8 ys j f).1 (stp 5 8 ys j f).2 w' ∧ Fr [c, r] W w' := by
  refine (small_5 (n := 8) (ds_l fun _ h => fixed8_any h) (ds_r fun _ h => rFixed8_any h) (hide fun _ hS => hS.bel ((Below.refl _ _).drew)) (hide fun _ hS => st_cell h hS) (hide fun _ hS => st_cell h hS) (hide fun _ hS => st_cell h hS) (hide (st_box 5 8 h))).mono ?_
  rintro _ w ⟨⟨t, rfl, ht⟩, hS⟩
  exact ⟨⟨t, rfl, fun hh => ht (by obtain ⟨rfl, rfl, rfl⟩ := hh; rfl)⟩, st_end hS⟩
theorem sm_5n {c : Nat} {a : Option Addr} {len cap k : Nat} {xs : List Int} {e : Int} {r : Nat} {b : Option Addr} {lem cbp j : Nat} {ys : List Int} {f : Int} {n : Int} {W : World} (h4 : n ≠ 4) (h8 : n ≠ 8) (h : Tw c a len cap xs k e r b lem cbp ys j f W) :
    Calls Try.prog 25 #[.pointer (some ⟨c, 0, none⟩), .pointer (some ⟨r, 0, none⟩), .agg #[.int .i64 5, .int .i64 n]] W fun R w' => (∃ t, R = .returned (.bool t) ∧ ((xs = ys ∧ k = j ∧ e = f) → t = true)) ∧ Tw c a len cap xs (stp 5 n xs k e).1 (stp 5 n xs k e).2 r b lem cbp ys (stp 5 n ys j f).1 (stp 5 n ys j f).2 w' ∧ Fr [c, r] W w' := by
  have hE : ∀ xs k e, stp 5 n xs k e = (lift rArg 0 xs k e).2 := fun xs k e => by unfold stp; simp [h4, h8]
  rw [hE, hE]
  refine (small_5 (n := n) (ds_l fun _ h => fixedno_any h h4 h8) (ds_r fun _ h => rFixedno_any h h4 h8) (hide fun _ hS => hS.bel ((Below.refl _ _).drew)) (hide fun _ hS => st_cell h hS) (hide fun _ hS => st_cell h hS) (hide fun _ hS => st_cell h hS) (hide (st_box 5 n h))).mono ?_
  rintro _ w ⟨⟨t, rfl, ht⟩, hS⟩
  exact ⟨⟨t, rfl, fun hh => ht (by obtain ⟨rfl, rfl, rfl⟩ := hh; rfl)⟩, st_end hS⟩
theorem sm_5 {c : Nat} {a : Option Addr} {len cap k : Nat} {xs : List Int} {e : Int} {r : Nat} {b : Option Addr} {lem cbp j : Nat} {ys : List Int} {f : Int} {n : Int} {W : World} (h : Tw c a len cap xs k e r b lem cbp ys j f W) :
    Calls Try.prog 25 #[.pointer (some ⟨c, 0, none⟩), .pointer (some ⟨r, 0, none⟩), .agg #[.int .i64 5, .int .i64 n]] W fun R w' => (∃ t, R = .returned (.bool t) ∧ ((xs = ys ∧ k = j ∧ e = f) → t = true)) ∧ Tw c a len cap xs (stp 5 n xs k e).1 (stp 5 n xs k e).2 r b lem cbp ys (stp 5 n ys j f).1 (stp 5 n ys j f).2 w' ∧ Fr [c, r] W w' := by
  by_cases h4 : n = 4
  · subst h4; exact sm_54 h
  · by_cases h8 : n = 8
    · subst h8; exact sm_58 h
    · exact sm_5n h4 h8 h
/-- What Take does, by the program and by the document. -/
theorem tk_l {Wb : World} {c : Nat} {a : Option Addr} {len cap k : Nat} {xs : List Int} {e : Int} {r : Nat} {b : Option Addr} {lem cbp j : Nat} {ys : List Int} {f : Int} {m : Nat} (hm : m < 4294967296) : ∀ w, St Wb c a len cap xs k e r b lem cbp ys j f w → Calls Try.prog 52 #[.pointer (some ⟨c, 0, none⟩), .int .u32 (m : Int)] w fun R w' => ∃ x1 x2 x3, R = .returned (.slice x1 x2 x3) ∧ Nw Wb.heap.size x1 x2 x3 (lift (rP m) [] xs k e).1 w' ∧ St Wb c a len cap xs (lift (rP m) [] xs k e).2.1 (lift (rP m) [] xs k e).2.2 r b lem cbp ys j f w' := fun w h => by
  refine (take_any (n := m) h.1.1 hm).mono ?_
  rintro _ w' ⟨x1, x2, x3, rfl, hN, hC, hF⟩
  exact ⟨x1, x2, x3, rfl, hN.mono h.2.size, h.left hC hF⟩
theorem tk_r {Wb : World} {c : Nat} {a : Option Addr} {len cap k : Nat} {xs : List Int} {e : Int} {r : Nat} {b : Option Addr} {lem cbp j : Nat} {ys : List Int} {f : Int} {m : Nat} {zs : List Int} (hr : r < Wb.heap.size) : ∀ x1 x2 x3 w, Nw Wb.heap.size x1 x2 x3 zs w ∧ St Wb c a len cap xs k e r b lem cbp ys j f w → Calls Try.prog 53 #[.pointer (some ⟨r, 0, none⟩), .int .u64 (m : Int)] w fun R w' => ∃ y1 y2 y3, R = .returned (.slice y1 y2 y3) ∧ Sl w' x1 x2 x3 zs ∧ Sl w' y1 y2 y3 (lift (rP m) [] ys j f).1 ∧ St Wb c a len cap xs k e r b lem cbp ys (lift (rP m) [] ys j f).2.1 (lift (rP m) [] ys j f).2.2 w' := fun x1 x2 x3 w h => by
  refine (rTake_any (n := m) h.2.1.2.1).mono ?_
  rintro _ w' ⟨y1, y2, y3, rfl, hS, _, hC, hF⟩
  exact ⟨y1, y2, y3, rfl, (h.1.fr hF (by simp; omega)).1, hS, h.2.right hC hF⟩
theorem sm_6lo {c : Nat} {a : Option Addr} {len cap k : Nat} {xs : List Int} {e : Int} {r : Nat} {b : Option Addr} {lem cbp j : Nat} {ys : List Int} {f : Int} {n : Int} {W : World} (hn : n < 0) (h : Tw c a len cap xs k e r b lem cbp ys j f W) :
    Calls Try.prog 25 #[.pointer (some ⟨c, 0, none⟩), .pointer (some ⟨r, 0, none⟩), .agg #[.int .i64 6, .int .i64 n]] W fun R w' => (∃ t, R = .returned (.bool t) ∧ ((xs = ys ∧ k = j ∧ e = f) → t = true)) ∧ Tw c a len cap xs (stp 6 n xs k e).1 (stp 6 n xs k e).2 r b lem cbp ys (stp 6 n ys j f).1 (stp 6 n ys j f).2 w' ∧ Fr [c, r] W w' := by
  have hm : clp n = 0 := by unfold clp; rw [if_pos hn]
  have hE : ∀ xs k e, stp 6 n xs k e = (lift (rP 0) [] xs k e).2 := fun xs k e => by unfold stp; simp [hm]
  rw [hE, hE]
  have hr := h.2.1.1.lt
  refine (small_6lo hn (J := fun x1 x2 x3 w => Nw (W.alloc (.cells #[.int .i64 6, .int .i64 n] 31)).heap.size x1 x2 x3 (lift (rP 0) [] xs k e).1 w ∧ St (W.alloc (.cells #[.int .i64 6, .int .i64 n] 31)) c a len cap xs (lift (rP 0) [] xs k e).2.1 (lift (rP 0) [] xs k e).2.2 r b lem cbp ys j f w) (hide (tk_l (m := 0) (by omega))) (hide (tk_r (m := 0) (by simp; omega))) (hide fun _ _ _ _ hJ => hJ.1.1) (hide fun _ hS => hS.bel ((Below.refl _ _).drew)) (hide (st_box 6 n h))).mono ?_
  rintro _ w ⟨⟨t, rfl, ht⟩, hS⟩
  exact ⟨⟨t, rfl, fun hh => ht (by obtain ⟨rfl, rfl, rfl⟩ := hh; rfl)⟩, st_end hS⟩
theorem sm_6hi {c : Nat} {a : Option Addr} {len cap k : Nat} {xs : List Int} {e : Int} {r : Nat} {b : Option Addr} {lem cbp j : Nat} {ys : List Int} {f : Int} {n : Int} {W : World} (hn : 2147483648 < n) (h : Tw c a len cap xs k e r b lem cbp ys j f W) :
    Calls Try.prog 25 #[.pointer (some ⟨c, 0, none⟩), .pointer (some ⟨r, 0, none⟩), .agg #[.int .i64 6, .int .i64 n]] W fun R w' => (∃ t, R = .returned (.bool t) ∧ ((xs = ys ∧ k = j ∧ e = f) → t = true)) ∧ Tw c a len cap xs (stp 6 n xs k e).1 (stp 6 n xs k e).2 r b lem cbp ys (stp 6 n ys j f).1 (stp 6 n ys j f).2 w' ∧ Fr [c, r] W w' := by
  have hm : clp n = 2147483648 := by unfold clp; rw [if_neg (by omega), if_neg (by omega)]
  have hE : ∀ xs k e, stp 6 n xs k e = (lift (rP 2147483648) [] xs k e).2 := fun xs k e => by unfold stp; simp [hm]
  rw [hE, hE]
  have hr := h.2.1.1.lt
  refine (small_6hi hn (J := fun x1 x2 x3 w => Nw (W.alloc (.cells #[.int .i64 6, .int .i64 n] 31)).heap.size x1 x2 x3 (lift (rP 2147483648) [] xs k e).1 w ∧ St (W.alloc (.cells #[.int .i64 6, .int .i64 n] 31)) c a len cap xs (lift (rP 2147483648) [] xs k e).2.1 (lift (rP 2147483648) [] xs k e).2.2 r b lem cbp ys j f w) (hide (tk_l (m := 2147483648) (by omega))) (hide (tk_r (m := 2147483648) (by simp; omega))) (hide fun _ _ _ _ hJ => hJ.1.1) (hide fun _ hS => hS.bel ((Below.refl _ _).drew)) (hide (st_box 6 n h))).mono ?_
  rintro _ w ⟨⟨t, rfl, ht⟩, hS⟩
  exact ⟨⟨t, rfl, fun hh => ht (by obtain ⟨rfl, rfl, rfl⟩ := hh; rfl)⟩, st_end hS⟩
theorem sm_6in {c : Nat} {a : Option Addr} {len cap k : Nat} {xs : List Int} {e : Int} {r : Nat} {b : Option Addr} {lem cbp j : Nat} {ys : List Int} {f : Int} {m : Nat} {W : World} (hn : m ≤ 2147483648) (h : Tw c a len cap xs k e r b lem cbp ys j f W) :
    Calls Try.prog 25 #[.pointer (some ⟨c, 0, none⟩), .pointer (some ⟨r, 0, none⟩), .agg #[.int .i64 6, .int .i64 (m : Int)]] W fun R w' => (∃ t, R = .returned (.bool t) ∧ ((xs = ys ∧ k = j ∧ e = f) → t = true)) ∧ Tw c a len cap xs (stp 6 (m : Int) xs k e).1 (stp 6 (m : Int) xs k e).2 r b lem cbp ys (stp 6 (m : Int) ys j f).1 (stp 6 (m : Int) ys j f).2 w' ∧ Fr [c, r] W w' := by
  have hm : clp (m : Int) = m := by unfold clp; rw [if_neg (by omega), if_pos (by omega), Int.toNat_natCast]
  have hE : ∀ xs k e, stp 6 (m : Int) xs k e = (lift (rP m) [] xs k e).2 := fun xs k e => by unfold stp; simp [hm]
  rw [hE, hE]
  have hr := h.2.1.1.lt
  refine (small_6in (by omega) (by omega) (J := fun x1 x2 x3 w => Nw (W.alloc (.cells #[.int .i64 6, .int .i64 (m : Int)] 31)).heap.size x1 x2 x3 (lift (rP m) [] xs k e).1 w ∧ St (W.alloc (.cells #[.int .i64 6, .int .i64 (m : Int)] 31)) c a len cap xs (lift (rP m) [] xs k e).2.1 (lift (rP m) [] xs k e).2.2 r b lem cbp ys j f w) (hide (tk_l (m := m) (by omega))) (hide (tk_r (m := m) (by simp; omega))) (hide fun _ _ _ _ hJ => hJ.1.1) (hide fun _ hS => hS.bel ((Below.refl _ _).drew)) (hide (st_box 6 (m : Int) h))).mono ?_
  rintro _ w ⟨⟨t, rfl, ht⟩, hS⟩
  exact ⟨⟨t, rfl, fun hh => ht (by obtain ⟨rfl, rfl, rfl⟩ := hh; rfl)⟩, st_end hS⟩
theorem sm_6 {c : Nat} {a : Option Addr} {len cap k : Nat} {xs : List Int} {e : Int} {r : Nat} {b : Option Addr} {lem cbp j : Nat} {ys : List Int} {f : Int} {n : Int} {W : World} (h : Tw c a len cap xs k e r b lem cbp ys j f W) :
    Calls Try.prog 25 #[.pointer (some ⟨c, 0, none⟩), .pointer (some ⟨r, 0, none⟩), .agg #[.int .i64 6, .int .i64 n]] W fun R w' => (∃ t, R = .returned (.bool t) ∧ ((xs = ys ∧ k = j ∧ e = f) → t = true)) ∧ Tw c a len cap xs (stp 6 n xs k e).1 (stp 6 n xs k e).2 r b lem cbp ys (stp 6 n ys j f).1 (stp 6 n ys j f).2 w' ∧ Fr [c, r] W w' := by
  by_cases h0 : n < 0
  · exact sm_6lo h0 h
  · by_cases h1 : n ≤ 2147483648
    · obtain ⟨m, rfl⟩ := Int.eq_ofNat_of_zero_le (show 0 ≤ n by omega)
      exact sm_6in (by omega) h
    · exact sm_6hi (by omega) h
theorem small_any {c : Nat} {a : Option Addr} {len cap k : Nat} {xs : List Int} {e : Int} {r : Nat} {b : Option Addr} {lem cbp j : Nat} {ys : List Int} {f : Int} {K n : Int} {W : World} (h1 : 1 ≤ K) (h2 : K ≤ 10) (h : Tw c a len cap xs k e r b lem cbp ys j f W) :
    Calls Try.prog 25 #[.pointer (some ⟨c, 0, none⟩), .pointer (some ⟨r, 0, none⟩), .agg #[.int .i64 K, .int .i64 n]] W fun R w' => (∃ t, R = .returned (.bool t) ∧ ((xs = ys ∧ k = j ∧ e = f) → t = true)) ∧ Tw c a len cap xs (stp K n xs k e).1 (stp K n xs k e).2 r b lem cbp ys (stp K n ys j f).1 (stp K n ys j f).2 w' ∧ Fr [c, r] W w' := by
  have hK : K = 1 ∨ K = 2 ∨ K = 3 ∨ K = 4 ∨ K = 5 ∨ K = 6 ∨ K = 7 ∨ K = 8 ∨ K = 9 ∨ K = 10 := by omega
  rcases hK with rfl | rfl | rfl | rfl | rfl | rfl | rfl | rfl | rfl | rfl
  · exact sm_1 h
  · exact sm_2 h
  · exact sm_3 h
  · exact sm_4 h
  · exact sm_5 h
  · exact sm_6 h
  · exact sm_7 h
  · exact sm_8 h
  · exact sm_9 h
  · exact sm_10 h
theorem rdl_12 {c : Nat} {a : Option Addr} {len cap k : Nat} {xs : List Int} {e : Int} {r : Nat} {b : Option Addr} {lem cbp j : Nat} {ys : List Int} {f : Int} {n : Int} {W : World} (h : Tw c a len cap xs k e r b lem cbp ys j f W) :
    Calls Try.prog 9 #[.pointer (some ⟨c, 0, none⟩), .pointer (some ⟨r, 0, none⟩), .agg #[.int .i64 12, .int .i64 n]] W fun R w' => (∃ t, R = .returned (.bool t) ∧ ((xs = ys ∧ k = j ∧ e = f) → t = true)) ∧ Tw c a len cap xs (stp 12 n xs k e).1 (stp 12 n xs k e).2 r b lem cbp ys (stp 12 n ys j f).1 (stp 12 n ys j f).2 w' ∧ Fr [c, r] W w' := by
  refine (read_12 (q := r) (n := n) (y := (lift rGlobal (0, false) ys j f).1) (I2 := St (W.alloc (.cells #[.int .i64 12, .int .i64 n] 31)) c a len cap xs (lift rGlobal (0, false) xs k e).2.1 (lift rGlobal (0, false) xs k e).2.2 r b lem cbp ys (lift rGlobal (0, false) ys j f).2.1 (lift rGlobal (0, false) ys j f).2.2) (ds_l fun _ h => global_any h) (hide fun w hS => (rGlobal_any hS.1.2.1).mono ?_) (hide fun w o hS => hS.bel (below1 _ _)) (hide fun w hS => hS.1.2.1.1.lt) (hide (st_box 12 n h))).mono ?_
  · rintro _ w' ⟨rfl, hC, hF⟩
    exact ⟨rfl, hS.right hC hF, hF⟩
  · rintro _ w ⟨⟨t, rfl, ht⟩, hS⟩
    exact ⟨⟨t, rfl, fun hh => ht (by obtain ⟨rfl, rfl, rfl⟩ := hh; rfl)⟩, st_end hS⟩
theorem rdl_14 {c : Nat} {a : Option Addr} {len cap k : Nat} {xs : List Int} {e : Int} {r : Nat} {b : Option Addr} {lem cbp j : Nat} {ys : List Int} {f : Int} {n : Int} {W : World} (h : Tw c a len cap xs k e r b lem cbp ys j f W) :
    Calls Try.prog 9 #[.pointer (some ⟨c, 0, none⟩), .pointer (some ⟨r, 0, none⟩), .agg #[.int .i64 14, .int .i64 n]] W fun R w' => (∃ t, R = .returned (.bool t) ∧ ((xs = ys ∧ k = j ∧ e = f) → t = true)) ∧ Tw c a len cap xs (stp 14 n xs k e).1 (stp 14 n xs k e).2 r b lem cbp ys (stp 14 n ys j f).1 (stp 14 n ys j f).2 w' ∧ Fr [c, r] W w' := by
  refine (read_14 (q := r) (n := n) (x := (lift rFunc ([], []) xs k e).1) (y := (lift rFunc ([], []) ys j f).1) (I0 := St (W.alloc (.cells #[.int .i64 14, .int .i64 n] 31)) c a len cap xs k e r b lem cbp ys j f) (I1 := St (W.alloc (.cells #[.int .i64 14, .int .i64 n] 31)) c a len cap xs (lift rFunc ([], []) xs k e).2.1 (lift rFunc ([], []) xs k e).2.2 r b lem cbp ys j f) (I2 := St (W.alloc (.cells #[.int .i64 14, .int .i64 n] 31)) c a len cap xs (lift rFunc ([], []) xs k e).2.1 (lift rFunc ([], []) xs k e).2.2 r b lem cbp ys (lift rFunc ([], []) ys j f).2.1 (lift rFunc ([], []) ys j f).2.2) (hide fun w hS => (func_any hS.1.1).mono ?_) (hide fun w hS => (rFunc_any hS.1.2.1).mono ?_) (hide fun w o hS => hS.bel (below1 _ _)) (hide h.2.1.1.lt) (hide fun w hS => by have := hS.2.size; simp at this; omega) (hide (st_box 14 n h))).mono ?_
  · rintro _ w' ⟨x1, x2, x3, y1, y2, y3, rfl, hN1, hN2, hC, hF⟩
    exact ⟨x1, x2, x3, y1, y2, y3, rfl, hN1, hN2, hS.left hC hF⟩
  · rintro _ w' ⟨x1, x2, x3, y1, y2, y3, rfl, hN1, hN2, hC, hF⟩
    exact ⟨x1, x2, x3, y1, y2, y3, rfl, hN1.1, hN2.1, hS.right hC hF, hF⟩
  · rintro _ w ⟨⟨t, rfl, ht⟩, hS⟩
    exact ⟨⟨t, rfl, fun hh => ht (by obtain ⟨rfl, rfl, rfl⟩ := hh; rfl)⟩, st_end hS⟩
theorem rdl_15 {c : Nat} {a : Option Addr} {len cap k : Nat} {xs : List Int} {e : Int} {r : Nat} {b : Option Addr} {lem cbp j : Nat} {ys : List Int} {f : Int} {n : Int} {W : World} (h : Tw c a len cap xs k e r b lem cbp ys j f W) :
    Calls Try.prog 9 #[.pointer (some ⟨c, 0, none⟩), .pointer (some ⟨r, 0, none⟩), .agg #[.int .i64 15, .int .i64 n]] W fun R w' => (∃ t, R = .returned (.bool t) ∧ ((xs = ys ∧ k = j ∧ e = f) → t = true)) ∧ Tw c a len cap xs (stp 15 n xs k e).1 (stp 15 n xs k e).2 r b lem cbp ys (stp 15 n ys j f).1 (stp 15 n ys j f).2 w' ∧ Fr [c, r] W w' := by
  have hE : ∀ xs k e, stp 15 n xs k e = (k, if e = 0 then clq n else e) := fun xs k e => by unfold stp; simp
  rw [hE, hE]
  by_cases h0 : n ≤ 0
  · have hc : clq n = 0 := if_pos h0
    rw [hc]
    refine (read_15z h0 (ds_l fun _ h => Fail_any (x := 0) h) (hide (st_box 15 n h))).mono ?_
    rintro _ w ⟨rfl, hS⟩
    have hf : (if f = 0 then (0 : Int) else f) = f := by split <;> simp_all
    rw [hf]
    exact ⟨⟨true, rfl, fun _ => rfl⟩, st_end hS⟩
  · by_cases h1 : n ≤ 1000
    · have hc : clq n = n := by unfold clq; rw [if_neg h0, if_pos h1]
      rw [hc]
      refine (read_15in (by omega) h1 (ds_l fun _ h => Fail_any h) (ds_r fun _ h => rFail_any h) (hide (st_box 15 n h))).mono ?_
      rintro _ w ⟨rfl, hS⟩
      exact ⟨⟨true, rfl, fun _ => rfl⟩, st_end hS⟩
    · have hc : clq n = 1000 := by unfold clq; rw [if_neg h0, if_neg h1]
      rw [hc]
      refine (read_15hi (by omega) (ds_l fun _ h => Fail_any h) (ds_r fun _ h => rFail_any h) (hide (st_box 15 n h))).mono ?_
      rintro _ w ⟨rfl, hS⟩
      exact ⟨⟨true, rfl, fun _ => rfl⟩, st_end hS⟩
theorem rdl_s {c : Nat} {a : Option Addr} {len cap k : Nat} {xs : List Int} {e : Int} {r : Nat} {b : Option Addr} {lem cbp j : Nat} {ys : List Int} {f : Int} {K n : Int} {W : World} (h1 : 1 ≤ K) (h2 : K ≤ 10) (h : Tw c a len cap xs k e r b lem cbp ys j f W) :
    Calls Try.prog 9 #[.pointer (some ⟨c, 0, none⟩), .pointer (some ⟨r, 0, none⟩), .agg #[.int .i64 K, .int .i64 n]] W fun R w' => (∃ t, R = .returned (.bool t) ∧ ((xs = ys ∧ k = j ∧ e = f) → t = true)) ∧ Tw c a len cap xs (stp K n xs k e).1 (stp K n xs k e).2 r b lem cbp ys (stp K n ys j f).1 (stp K n ys j f).2 w' ∧ Fr [c, r] W w' := by
  refine (read_s h1 h2 (T := fun t => (xs = ys ∧ k = j ∧ e = f) → t = true) (I2 := St (W.alloc (.cells #[.int .i64 K, .int .i64 n] 31)) c a len cap xs (stp K n xs k e).1 (stp K n xs k e).2 r b lem cbp ys (stp K n ys j f).1 (stp K n ys j f).2) (hide fun w hS => (small_any h1 h2 (n := n) hS.1).mono ?_) (hide (st_box K n h))).mono ?_
  · rintro _ w' ⟨ht, hT, hF⟩
    exact ⟨ht, hT, hS.2.trans hF⟩
  · rintro _ w ⟨ht, hS⟩
    exact ⟨ht, st_end hS⟩
theorem stp_o {K n : Int} {xs : List Int} {k : Nat} {e : Int} (h : K < 1 ∨ 15 < K) : stp K n xs k e = (k, e) := by
  unfold stp
  rw [if_neg (by omega), if_neg (by omega), if_neg (by omega), if_neg (by omega), if_neg (by omega), if_neg (by omega), if_neg (by omega), if_neg (by omega), if_neg (by omega), if_neg (by omega), if_neg (by omega), if_neg (by omega), if_neg (by omega), if_neg (by omega), if_neg (by omega)]
theorem rdl_o {c : Nat} {a : Option Addr} {len cap k : Nat} {xs : List Int} {e : Int} {r : Nat} {b : Option Addr} {lem cbp j : Nat} {ys : List Int} {f : Int} {K n : Int} {W : World} (hK : K < 1 ∨ 15 < K) (h : Tw c a len cap xs k e r b lem cbp ys j f W) :
    Calls Try.prog 9 #[.pointer (some ⟨c, 0, none⟩), .pointer (some ⟨r, 0, none⟩), .agg #[.int .i64 K, .int .i64 n]] W fun R w' => (∃ t, R = .returned (.bool t) ∧ ((xs = ys ∧ k = j ∧ e = f) → t = true)) ∧ Tw c a len cap xs (stp K n xs k e).1 (stp K n xs k e).2 r b lem cbp ys (stp K n ys j f).1 (stp K n ys j f).2 w' ∧ Fr [c, r] W w' := by
  rw [stp_o hK, stp_o hK]
  rcases hK with hK | hK
  · refine (read_lo hK (hide (st_box K n h))).mono ?_
    rintro _ w ⟨rfl, hS⟩
    exact ⟨⟨true, rfl, fun _ => rfl⟩, st_end hS⟩
  · refine (read_hi hK (hide (st_box K n h))).mono ?_
    rintro _ w ⟨rfl, hS⟩
    exact ⟨⟨true, rfl, fun _ => rfl⟩, st_end hS⟩
/-- Anything is read side by side. -/
theorem read_any {c : Nat} {a : Option Addr} {len cap k : Nat} {xs : List Int} {e : Int} {r : Nat} {b : Option Addr} {lem cbp j : Nat} {ys : List Int} {f : Int} {K n : Int} {W : World} (h : Tw c a len cap xs k e r b lem cbp ys j f W) :
    Calls Try.prog 9 #[.pointer (some ⟨c, 0, none⟩), .pointer (some ⟨r, 0, none⟩), .agg #[.int .i64 K, .int .i64 n]] W fun R w' => (∃ t, R = .returned (.bool t) ∧ ((xs = ys ∧ k = j ∧ e = f) → t = true)) ∧ Tw c a len cap xs (stp K n xs k e).1 (stp K n xs k e).2 r b lem cbp ys (stp K n ys j f).1 (stp K n ys j f).2 w' ∧ Fr [c, r] W w' := by
  by_cases h1 : K < 1 ∨ 15 < K
  · exact rdl_o h1 h
  · by_cases h2 : K ≤ 10
    · exact rdl_s (by omega) h2 h
    · have hK : K = 11 ∨ K = 12 ∨ K = 13 ∨ K = 14 ∨ K = 15 := by omega
      rcases hK with rfl | rfl | rfl | rfl | rfl
      · exact rdl_11 h
      · exact rdl_12 h
      · exact rdl_13 h
      · exact rdl_14 h
      · exact rdl_15 h
end Go.Proofs.Ytphgljhlamjmgaa
