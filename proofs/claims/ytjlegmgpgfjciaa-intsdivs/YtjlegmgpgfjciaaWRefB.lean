/- Contracts of the reference's Uint, High, Len, Cmp and Mod. -/
import Derived.Test.YtjlegmgpgfjciaaWRefA
namespace Go.Proofs.Ytjlegmgpgfjciaa.W
open Go.RowKit

/-- A digit of a number. -/
def dgt (x k : Nat) : Nat := x / pw k % 4294967296
theorem dgt_lt (x k : Nat) : dgt x k < 4294967296 := Nat.mod_lt _ (by omega)

theorem at_n (s : Value) (x k : Nat) (w : World) (h : IsNat w s x) (hk : k ≤ 1000000) :
    Calls Try.prog 68 #[s, .int .i64 (k : Int)] w fun e w' => e = .returned (.int .u64 ((dgt x k : Nat) : Int)) ∧ w' = w := by
  obtain ⟨D, h1, h2, h3, rfl⟩ := h
  have := at_any s D k w h1 hk
  rw [at_val D k h2] at this
  exact this
theorem at_0 (s : Value) (x : Nat) (w : World) (h : IsNat w s x) : Calls Try.prog 68 #[s, .int .i64 0] w fun e w' => e = .returned (.int .u64 ((dgt x 0 : Nat) : Int)) ∧ w' = w := at_n s x 0 w h (by omega)
theorem at_1 (s : Value) (x : Nat) (w : World) (h : IsNat w s x) : Calls Try.prog 68 #[s, .int .i64 1] w fun e w' => e = .returned (.int .u64 ((dgt x 1 : Nat) : Int)) ∧ w' = w := at_n s x 1 w h (by omega)
theorem at_2 (s : Value) (x : Nat) (w : World) (h : IsNat w s x) : Calls Try.prog 68 #[s, .int .i64 2] w fun e w' => e = .returned (.int .u64 ((dgt x 2 : Nat) : Int)) ∧ w' = w := at_n s x 2 w h (by omega)
theorem at_3 (s : Value) (x : Nat) (w : World) (h : IsNat w s x) : Calls Try.prog 68 #[s, .int .i64 3] w fun e w' => e = .returned (.int .u64 ((dgt x 3 : Nat) : Int)) ∧ w' = w := at_n s x 3 w h (by omega)

theorem IsNat.drewN {w : World} {s : Value} {x : Nat} (h : IsNat w s x) (n : Nat) : IsNat (w.drewN n) s x := h.below (below_drewN (Below.refl _ _) n)
theorem IsNat.alloc {w : World} {s : Value} {x : Nat} (h : IsNat w s x) (o : Obj) : IsNat (w.alloc o) s x := h.below (below1 _ _)

theorem digits_join (p q : Nat) (hp : p < 4294967296) (hq : q < 4294967296) : IntKind.u64.wrap (IntKind.u64.wrap ((p : Int) * 4294967296) + (q : Int)) = ((p * 4294967296 + q : Nat) : Int) := by
  rw [IntKind.wrap_u64, IntKind.wrap_u64]; omega
/-- The second word of a number. -/
def hi64 (x : Nat) : Int := ((x / 18446744073709551616 % 18446744073709551616 : Nat) : Int)
theorem hi64_hi {x : Nat} (h : W2 x) : hi64 x = hi x := by unfold W2 at h; unfold hi64 hi; omega
theorem pw_1 : pw 1 = 4294967296 := by decide +kernel
theorem pw_2 : pw 2 = 18446744073709551616 := by decide +kernel
theorem pw_3 : pw 3 = 79228162514264337593543950336 := by decide +kernel
theorem pw_4 : pw 4 = 340282366920938463463374607431768211456 := by decide +kernel
theorem lo_digits (x : Nat) : ((dgt x 1 * 4294967296 + dgt x 0 : Nat) : Int) = lo x := by
  unfold dgt lo; rw [pw_1, pw_0]; omega
theorem hi_digits (x : Nat) : ((dgt x 3 * 4294967296 + dgt x 2 : Nat) : Int) = hi64 x := by
  unfold dgt hi64; rw [pw_3, pw_2]; omega

set_option maxHeartbeats 400000 in
theorem uint_any (a : Option Addr) (n c x : Nat) (w : World) (h : IsNat w (.slice a n c) x) :
    Calls Try.prog 67 #[.agg #[.slice a n c]] w fun e w' => e = .returned (.int .u64 (lo x)) ∧ Below w.heap.size w w' := by
  have H := hide h
  clear h
  go_enter Try.func67, Try.ntmps67
  go_wp2_with fail
  go_quiet ((first | (go_at_call_of 68 (Value.int IntKind.i64 1); exact Calls.quiet_of_same (at_1 _ x _ (((unhide H).alloc _).drewN _))) | (go_at_call_of 68 (Value.int IntKind.i64 0); exact Calls.quiet_of_same (at_0 _ x _ (((unhide H).alloc _).drewN _)))))
  go_wp2
  go_ret
  exact ⟨ret1 ((digits_join _ _ (dgt_lt _ _) (dgt_lt _ _)).trans (lo_digits x)), below_drewN (below1 _ _) _⟩

theorem bitLen_top {D : List Nat} (hs : Small D) (hc : Canon D) (hl : 0 < D.length) : Go.bitLen (val D) = 32 * (D.length - 1) + Go.bitLen (dg D (D.length - 1)) := by
  rw [top_digit hs hl, pw_two]
  refine Go.bitLen_shift _ _ ?_
  rw [← pw_two]
  rcases hc with hc | hc
  · subst hc; simp at hl
  · have := Nat.div_pos hc (pw_pos _); omega

theorem bitLen_half {t : Nat} (h : ¬ t = 0) : Go.bitLen t = 1 + Go.bitLen (t / 2) := by
  by_cases h2 : t / 2 = 0
  · have : t = 1 := by omega
    subst this; rfl
  · have := Go.bitLen_shift t 1 (by simpa using h2)
    simpa using this

set_option maxHeartbeats 1000000 in
theorem refLen_any (a : Option Addr) (n c x : Nat) (w : World) (h : IsNat w (.slice a n c) x) :
    Calls Try.prog 78 #[.agg #[.slice a n c]] w fun e w' => e = .returned (.int .i64 (Go.bitLen x : Int)) ∧ Below w.heap.size w w' := by
  obtain ⟨D, hH, hs, hC, rfl⟩ := h
  by_cases hn : D.length = 0
  · have hD := List.eq_nil_of_length_eq_zero hn
    subst hD
    have e : n = 0 := by
      rcases hH with ⟨h1, _⟩ | ⟨g, c', h1, _⟩
      · injection h1
      · injection h1
    subst e
    go_enter Try.func78, Try.ntmps78
    go_wp2
    go_ret
    exact ⟨rfl, below1 _ _⟩
  · have hb := bitLen_top hs hC (by omega)
    have ht : dg D (D.length - 1) < 4294967296 := by rw [at_val D _ hs]; exact Nat.mod_lt _ (by omega)
    rcases hH with ⟨_, h1⟩ | ⟨g, c', h1, h2, h3, h4, h5⟩
    · subst h1; simp at hn
    · injection h1 with e1 e2 e3
      subst e1 e2 e3
      have hcell : (w.alloc (.cells #[.slice (some ⟨g, 0, none⟩) D.length c] 45)).cell? ⟨g, D.length - 1, none⟩ = some (.int .u64 ((dg D (D.length - 1) : Nat) : Int)) := by
        rw [World.cell?_alloc_lt _ _ _ h2]; exact h5 _ (by omega)
      have HB := hide hb
      have HT := hide ht
      have hbl : Go.bitLen (dg D (D.length - 1)) ≤ 32 := by
        have hp : (4294967296 : Nat) = 2 ^ 32 := rfl
        unfold Go.bitLen
        split
        · omega
        · rename_i h0
          have := (Nat.log2_lt h0).2 (show dg D (D.length - 1) < 2 ^ 32 from ht)
          omega
      have hl : 0 < D.length := by omega
      have hl' : D.length ≤ 1000000 := by omega
      have hb1 : ((D.length : Int) == 0) = false := by rw [beq_eq_false_iff_ne]; omega
      clear hb h5 hs hC ht
      generalize dg D (D.length - 1) = T at *
      generalize D.length = L at *
      generalize val D = x at *
      go_enter Try.func78, Try.ntmps78
      go_wp2_with fail
      go_loop [3, 4] (fun t3 t4 => ∃ j t : Nat, t3 = .int .i64 (32 * ((L : Int) - 1) + j) ∧ t4 = .int .u64 t ∧ t < 4294967296 ∧ j + Go.bitLen t = Go.bitLen T) (fun _ t4 => (intOf t4).toNat)
      case atStart => exact ⟨0, T, by simp, rfl, unhide HT, by omega⟩
      case round =>
        obtain ⟨j, t, rfl, rfl, htl, hj⟩ := hrel
        have HJ := hide hj
        have HL := hide htl
        have hj32 : j ≤ 32 := by omega
        clear hj htl
        by_cases h0 : t = 0
        · subst h0
          go_wp2_with fail
          go_ret
          exact ⟨ret1 (by have := unhide HJ; have := unhide HB; rw [show Go.bitLen 0 = 0 from rfl] at *; omega), below1 _ _⟩
        · go_wp2_with fail
          have e2 : IntKind.u64.wrap ((t : Int) / 2) = ((t / 2 : Nat) : Int) := by have := unhide HL; rw [IntKind.wrap_u64]; omega
          have e3 := bitLen_half h0
          have e4 := unhide HJ
          have e5 := unhide HL
          rw [e2]
          refine ⟨⟨j + 1, t / 2, ?_, rfl, by omega, by omega⟩, by simp [intOf]; omega⟩
          congr 1
          omega

end Go.Proofs.Ytjlegmgpgfjciaa.W
