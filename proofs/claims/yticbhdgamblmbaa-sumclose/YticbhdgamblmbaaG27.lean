/- WAdd, NearB. -/
import Derived.Test.YticbhdgamblmbaaG08
import Derived.Test.YticbhdgamblmbaaG24
import Derived.Test.YticbhdgamblmbaaG25
import Derived.Shelf.Spec.BitsCarry
import Derived.Handy
namespace Go.Proofs.Yticbhdgamblmbaa.W
open Go.RowKit

theorem add64 (x y c : Int) (hx : 0 ≤ x) (hy : 0 ≤ y) (hc0 : 0 ≤ c) (hc : c ≤ 1) (w : World) : (callFunc 74 #[.int .u64 x, .int .u64 y, .int .u64 c]).run Try.prog w =
    .ok (.value (.tuple #[.int .u64 ((x + y + c) % 18446744073709551616), .int .u64 ((x + y + c) / 18446744073709551616)])) w := by
  rw [run_callFunc_extern Try.func74 (by kernel_rfl) (by kernel_rfl) (by kernel_rfl) (e := add64Entry) (by kernel_rfl), run_add64 x y c hx hy hc0 hc]
  rfl
theorem sub64 (x y b : Int) (hx : 0 ≤ x) (hy : 0 ≤ y) (hy' : y < 18446744073709551616) (hb0 : 0 ≤ b) (hb : b ≤ 1) (w : World) : (callFunc 77 #[.int .u64 x, .int .u64 y, .int .u64 b]).run Try.prog w =
    .ok (.value (.tuple #[.int .u64 ((x - y - b) % 18446744073709551616), .int .u64 (if x < y + b then 1 else 0)])) w := by
  obtain ⟨x, rfl⟩ := Int.eq_ofNat_of_zero_le hx
  obtain ⟨y, rfl⟩ := Int.eq_ofNat_of_zero_le hy
  obtain ⟨b, rfl⟩ := Int.eq_ofNat_of_zero_le hb0
  have e1 : (((x + 18446744073709551616 - y - b) % 18446744073709551616 : Nat) : Int) = ((x : Int) - y - b) % 18446744073709551616 := by omega
  have e2 : ((if x < y + b then 1 else 0 : Nat) : Int) = if (x : Int) < y + b then 1 else 0 := by split <;> split <;> omega
  rw [← e1, ← e2, run_callFunc_extern Try.func77 (by kernel_rfl) (by kernel_rfl) (by kernel_rfl) (e := sub64Entry) (by kernel_rfl), run_sub64 x y b (by omega)]
  rfl

set_option maxHeartbeats 400000 in
theorem words_any (h l : Int) (w : World) :
    Calls Try.prog 73 #[.agg #[.int .u64 h, .int .u64 l]] w fun e w' => e = .returned (.agg #[.int .u64 l, .int .u64 h]) ∧ Below w.heap.size w w' := by
  go_enter Try.func73, Try.ntmps73
  go_wp2
  exact bodyPost_ret (v := .agg #[.int .u64 l, .int .u64 h]) (by simp [results, Try.results73, go_sem]) rfl ⟨rfl, below2 _ _ _⟩

set_option maxHeartbeats 400000 in
theorem fromWords_any (l h : Int) (w : World) :
    Calls Try.prog 75 #[.agg #[.int .u64 l, .int .u64 h]] w fun e w' => e = .returned (.agg #[.int .u64 h, .int .u64 l]) ∧ Below w.heap.size w w' := by
  go_enter Try.func75, Try.ntmps75
  go_wp2
  exact bodyPost_ret (v := .agg #[.int .u64 h, .int .u64 l]) (by simp [results, Try.results75, go_sem]) rfl ⟨rfl, below2 _ _ _⟩

set_option maxHeartbeats 1000000 in
theorem add_any (ah al bh bl : Int) (w : World) (a1 : 0 ≤ ah) (b1 : 0 ≤ al) (c1 : 0 ≤ bh) (d1 : 0 ≤ bl) (b2 : al < 18446744073709551616) (d2 : bl < 18446744073709551616) :
    Calls Try.prog 61 #[.agg #[.int .u64 ah, .int .u64 al], .agg #[.int .u64 bh, .int .u64 bl]] w fun e w' =>
      e = .returned (.agg #[.int .u64 ((ah + bh + (al + bl) / 18446744073709551616) % 18446744073709551616), .int .u64 ((al + bl) % 18446744073709551616)]) ∧ Below w.heap.size w w' := by
  have k0 : 0 ≤ (al + bl) / 18446744073709551616 := by omega
  have k1 : (al + bl) / 18446744073709551616 ≤ 1 := by omega
  have i0 : ∀ w, (Instr.index 88 (.agg #[.int .u64 al, .int .u64 ah]) (.int .i64 0)).run Try.prog w = .ok (.int .u64 al) w := fun _ => by kernel_rfl
  have i1 : ∀ w, (Instr.index 88 (.agg #[.int .u64 al, .int .u64 ah]) (.int .i64 1)).run Try.prog w = .ok (.int .u64 ah) w := fun _ => by kernel_rfl
  have s0 := fun w => add64 al bl 0 b1 d1 (by omega) (by omega) w
  have s1 := fun w => add64 ah bh _ a1 c1 k0 k1 w
  simp only [Int.add_zero] at s0
  go_enter Try.func61, Try.ntmps61
  go_wp2_with fail
  refine (words_any bh bl _).mono ?_
  rintro e w1 ⟨rfl, hb1⟩
  have q0 : w1.cell? ⟨w.heap.size, 0, none⟩ = some (.int .u64 ah) := by rw [hb1.cell (by first | (simp; done) | (simp; omega))]; simp [go_sem]
  have q1 : w1.cell? ⟨w.heap.size, 1, none⟩ = some (.int .u64 al) := by rw [hb1.cell (by first | (simp; done) | (simp; omega))]; simp [go_sem]
  have r0 : w1.cell? ⟨w.heap.size + 1 + 1, 0, none⟩ = some (.int .u64 0) := by rw [hb1.cell (by first | (simp; done) | (simp; omega))]; simp [go_sem]
  have r1 : w1.cell? ⟨w.heap.size + 1 + 1, 1, none⟩ = some (.int .u64 0) := by rw [hb1.cell (by first | (simp; done) | (simp; omega))]; simp [go_sem]
  have f0 : w1.frozen? ⟨w.heap.size + 1 + 1, 0, none⟩ = false := by rw [hb1.frozen (by first | (simp; done) | (simp; omega))]; simp [go_sem]
  have f1 : w1.frozen? ⟨w.heap.size + 1 + 1, 1, none⟩ = false := by rw [hb1.frozen (by first | (simp; done) | (simp; omega))]; simp [go_sem]
  have hz1 : w.heap.size + 1 + 1 < w1.heap.size := by have := hb1.size; simp at this; omega
  have hz1' : w.heap.size < w1.heap.size := by omega
  go_wp2_with fail
  refine (words_any ah al _).mono ?_
  rintro e w2 ⟨rfl, hb2⟩
  obtain ⟨hc2, hf2⟩ := bcell hb2
  have hz2 : w1.heap.size + 1 < w2.heap.size := by have := hb2.size; simp at this; omega
  go_wp2_with fail
  refine wp_loop_rounds 3 ?_
  rw [rounds_succ]
  go_wp2_with (first | simp only [s0] | simp only [s1])
  rw [rounds_succ]
  go_wp2_with (first | simp only [s0] | simp only [s1])
  rw [rounds_succ]
  go_wp2_with fail
  refine (fromWords_any _ _ _).mono ?_
  rintro e w3 ⟨rfl, hb3⟩
  have hB : Below w1.heap.size w1 w3 := bthen (((bthen (below2 _ _ _) hb2).setCell (p := ⟨w1.heap.size + 1, 0, none⟩) (by simp) _).setCell (p := ⟨w1.heap.size + 1, 1, none⟩) (by simp) _) hb3
  have t0 : w3.cell? ⟨w.heap.size + 1 + 1, 0, none⟩ = some (.int .u64 0) := by rw [hB.cell (by simpa using hz1)]; exact r0
  have t1 : w3.cell? ⟨w.heap.size + 1 + 1, 1, none⟩ = some (.int .u64 0) := by rw [hB.cell (by simpa using hz1)]; exact r1
  have x0 : w3.frozen? ⟨w.heap.size + 1 + 1, 0, none⟩ = false := by rw [hB.frozen (by simpa using hz1)]; exact f0
  have x1 : w3.frozen? ⟨w.heap.size + 1 + 1, 1, none⟩ = false := by rw [hB.frozen (by simpa using hz1)]; exact f1
  go_wp2
  refine bodyPost_ret (v := .agg #[.int .u64 ((ah + bh + (al + bl) / 18446744073709551616) % 18446744073709551616), .int .u64 ((al + bl) % 18446744073709551616)]) ?_ rfl ⟨rfl, ?_⟩
  · simp [results, Try.results61, go_sem, t0, t1]
  · exact ((bthen (bthen (balloc (below2 _ _ _) _) hb1) hB).setCell (by simp; omega) _).setCell (by simp; omega) _

/-- The borrow of a difference. -/
def bor (x y : Int) : Int := if x < y then 1 else 0
theorem sub64b (x y b : Int) (hx : 0 ≤ x) (hy : 0 ≤ y) (hy' : y < 18446744073709551616) (hb0 : 0 ≤ b) (hb : b ≤ 1) (w : World) : (callFunc 77 #[.int .u64 x, .int .u64 y, .int .u64 b]).run Try.prog w =
    .ok (.value (.tuple #[.int .u64 ((x - y - b) % 18446744073709551616), .int .u64 (bor x (y + b))])) w := sub64 x y b hx hy hy' hb0 hb w

set_option maxHeartbeats 1000000 in
theorem sub_any (ah al bh bl : Int) (w : World) (a1 : 0 ≤ ah) (b1 : 0 ≤ al) (c1 : 0 ≤ bh) (d1 : 0 ≤ bl) (c2 : bh < 18446744073709551616) (d2 : bl < 18446744073709551616) :
    Calls Try.prog 63 #[.agg #[.int .u64 ah, .int .u64 al], .agg #[.int .u64 bh, .int .u64 bl]] w fun e w' =>
      e = .returned (.agg #[.int .u64 ((ah - bh - bor al bl) % 18446744073709551616), .int .u64 ((al - bl) % 18446744073709551616)]) ∧ Below w.heap.size w w' := by
  have k0 : 0 ≤ bor al bl := by unfold bor; split <;> omega
  have k1 : bor al bl ≤ 1 := by unfold bor; split <;> omega
  have i0 : ∀ w, (Instr.index 88 (.agg #[.int .u64 al, .int .u64 ah]) (.int .i64 0)).run Try.prog w = .ok (.int .u64 al) w := fun _ => by kernel_rfl
  have i1 : ∀ w, (Instr.index 88 (.agg #[.int .u64 al, .int .u64 ah]) (.int .i64 1)).run Try.prog w = .ok (.int .u64 ah) w := fun _ => by kernel_rfl
  have s0 := fun w => sub64b al bl 0 b1 d1 d2 (by omega) (by omega) w
  have s1 := fun w => sub64b ah bh _ a1 c1 c2 k0 k1 w
  simp only [Int.add_zero, Int.sub_zero] at s0
  go_enter Try.func63, Try.ntmps63
  go_wp2_with fail
  refine (words_any bh bl _).mono ?_
  rintro e w1 ⟨rfl, hb1⟩
  have q0 : w1.cell? ⟨w.heap.size, 0, none⟩ = some (.int .u64 ah) := by rw [hb1.cell (by first | (simp; done) | (simp; omega))]; simp [go_sem]
  have q1 : w1.cell? ⟨w.heap.size, 1, none⟩ = some (.int .u64 al) := by rw [hb1.cell (by first | (simp; done) | (simp; omega))]; simp [go_sem]
  have r0 : w1.cell? ⟨w.heap.size + 1 + 1, 0, none⟩ = some (.int .u64 0) := by rw [hb1.cell (by first | (simp; done) | (simp; omega))]; simp [go_sem]
  have r1 : w1.cell? ⟨w.heap.size + 1 + 1, 1, none⟩ = some (.int .u64 0) := by rw [hb1.cell (by first | (simp; done) | (simp; omega))]; simp [go_sem]
  have f0 : w1.frozen? ⟨w.heap.size + 1 + 1, 0, none⟩ = false := by rw [hb1.frozen (by first | (simp; done) | (simp; omega))]; simp [go_sem]
  have f1 : w1.frozen? ⟨w.heap.size + 1 + 1, 1, none⟩ = false := by rw [hb1.frozen (by first | (simp; done) | (simp; omega))]; simp [go_sem]
  have hz1 : w.heap.size + 1 + 1 < w1.heap.size := by have := hb1.size; simp at this; omega
  have hz1' : w.heap.size < w1.heap.size := by omega
  go_wp2_with fail
  refine (words_any ah al _).mono ?_
  rintro e w2 ⟨rfl, hb2⟩
  obtain ⟨hc2, hf2⟩ := bcell hb2
  have hz2 : w1.heap.size + 1 < w2.heap.size := by have := hb2.size; simp at this; omega
  go_wp2_with fail
  refine wp_loop_rounds 3 ?_
  rw [rounds_succ]
  go_wp2_with (first | simp only [s0] | simp only [s1])
  rw [rounds_succ]
  go_wp2_with (first | simp only [s0] | simp only [s1])
  rw [rounds_succ]
  go_wp2_with fail
  refine (fromWords_any _ _ _).mono ?_
  rintro e w3 ⟨rfl, hb3⟩
  have hB : Below w1.heap.size w1 w3 := bthen (((bthen (below2 _ _ _) hb2).setCell (p := ⟨w1.heap.size + 1, 0, none⟩) (by simp) _).setCell (p := ⟨w1.heap.size + 1, 1, none⟩) (by simp) _) hb3
  have t0 : w3.cell? ⟨w.heap.size + 1 + 1, 0, none⟩ = some (.int .u64 0) := by rw [hB.cell (by simpa using hz1)]; exact r0
  have t1 : w3.cell? ⟨w.heap.size + 1 + 1, 1, none⟩ = some (.int .u64 0) := by rw [hB.cell (by simpa using hz1)]; exact r1
  have x0 : w3.frozen? ⟨w.heap.size + 1 + 1, 0, none⟩ = false := by rw [hB.frozen (by simpa using hz1)]; exact f0
  have x1 : w3.frozen? ⟨w.heap.size + 1 + 1, 1, none⟩ = false := by rw [hB.frozen (by simpa using hz1)]; exact f1
  go_wp2
  refine bodyPost_ret (v := .agg #[.int .u64 ((ah - bh - bor al bl) % 18446744073709551616), .int .u64 ((al - bl) % 18446744073709551616)]) ?_ rfl ⟨rfl, ?_⟩
  · simp [results, Try.results63, go_sem, t0, t1]
  · exact ((bthen (bthen (balloc (below2 _ _ _) _) hb1) hB).setCell (by simp; omega) _).setCell (by simp; omega) _

/-- Sums and differences of numbers below 2^128. -/
def addN (v u : Nat) : Nat := (v + u) % 340282366920938463463374607431768211456
def subN (v u : Nat) : Nat := (v + (340282366920938463463374607431768211456 - u)) % 340282366920938463463374607431768211456
theorem add_n (v u : Nat) (w : World) :
    Calls Try.prog 61 #[.agg #[.int .u64 (hi v), .int .u64 (lo v)], .agg #[.int .u64 (hi u), .int .u64 (lo u)]] w fun e w' => e = .returned (.agg #[.int .u64 (hi (addN v u)), .int .u64 (lo (addN v u))]) ∧ Below w.heap.size w w' := by
  have h := add_any (hi v) (lo v) (hi u) (lo u) w (hi_0 v) (lo_0 v) (hi_0 u) (lo_0 u) (lo_1 v) (lo_1 u)
  have e1 : hi (addN v u) = (hi v + hi u + (lo v + lo u) / 18446744073709551616) % 18446744073709551616 := by unfold hi lo addN; omega
  have e2 : lo (addN v u) = (lo v + lo u) % 18446744073709551616 := by unfold lo addN; omega
  rw [e1, e2]
  exact h

theorem sub_n (v u : Nat) (w : World) (hu : W2 u) :
    Calls Try.prog 63 #[.agg #[.int .u64 (hi v), .int .u64 (lo v)], .agg #[.int .u64 (hi u), .int .u64 (lo u)]] w fun e w' => e = .returned (.agg #[.int .u64 (hi (subN v u)), .int .u64 (lo (subN v u))]) ∧ Below w.heap.size w w' := by
  have h := sub_any (hi v) (lo v) (hi u) (lo u) w (hi_0 v) (lo_0 v) (hi_0 u) (lo_0 u) (hi_1 hu) (lo_1 u)
  unfold W2 at hu
  have e1 : hi (subN v u) = (hi v - hi u - bor (lo v) (lo u)) % 18446744073709551616 := by
    unfold hi lo subN bor
    by_cases c : ((v % 18446744073709551616 : Nat) : Int) < ((u % 18446744073709551616 : Nat) : Int)
    · rw [if_pos c]; omega
    · rw [if_neg c]; omega
  have e2 : lo (subN v u) = (lo v - lo u) % 18446744073709551616 := by unfold lo subN; omega
  rw [e1, e2]
  exact h

end Go.Proofs.Yticbhdgamblmbaa.W
namespace Go.Proofs.Yticbhdgamblmbaa
open Go.RowKit
open Go.Proofs.Yticbhdgamblmbaa.W

set_option maxRecDepth 100000 in
set_option maxHeartbeats 8000000 in
theorem near_sn {w f L Tp P k LA LB TF q : Int} {n : Bool} (a b : Option Addr) (na ca nb cb x y G : Nat) (w0 : World) (hx : IsNat w0 (.slice a na ca) x) (hy : IsNat w0 (.slice b nb cb) y)
    (HF : Hid (∀ W, Calls Try.prog 39 #[.int .i64 w] W fun r W' => r = .returned (.int .i64 f) ∧ Below W.heap.size W W')) (HL : Hid (∀ W, Calls Try.prog 79 #[.int .i64 w] W fun r W' => r = .returned (.int .i64 L) ∧ Below W.heap.size W W')) (HT : Hid (∀ W, Calls Try.prog 37 #[.int .i64 w] W fun r W' => r = .returned (.int .i64 Tp) ∧ Below W.heap.size W W')) (H2 : Hid (∀ W, Calls Try.prog 40 #[.int .i64 f] W fun r W' => r = .returned (.int .u64 P) ∧ Below W.heap.size W W'))
    (hla : (Go.bitLen x : Int) = LA) (hlb : (Go.bitLen y : Int) = LB) 
    (r1 : LA ≤ 20000) (r2 : LB ≤ 20000) (r3 : -20000 ≤ k ∧ k ≤ 20000) (r4 : 0 ≤ f ∧ f ≤ 63) (r5 : -20000 ≤ L ∧ L ≤ 20000) (r6 : -20000 ≤ Tp ∧ Tp ≤ 20000)
    (htf : LA - LB + k - f = TF) (hq : (TF < L ∧ q = L) ∨ (TF = L ∧ q = L) ∨ (L < TF ∧ q = TF))
    (HU : L < TF → Hid (∀ W, IsNat W (.slice a na ca) x → IsNat W (.slice b nb cb) y → Calls Try.prog 80 #[.agg #[.slice a na ca], .agg #[.slice b nb cb], .int .i64 (k - q - f)] W fun r W' => r = .returned (.bool false) ∧ Below W.heap.size W W'))
    (HG : Hid (∀ W, IsNat W (.slice a na ca) x → IsNat W (.slice b nb cb) y → Calls Try.prog 81 #[.agg #[.slice a na ca], .agg #[.slice b nb cb], .int .i64 (k - q)] W fun r W' => ∃ s', r = .returned (.agg #[s']) ∧ IsNat W' s' G ∧ Below W.heap.size W W'))
    {LG S V : Int} (hlg' : (Go.bitLen G : Int) = LG) (d : ¬ f + 1 < LG) (z : decide (L + Tp - 2 < q) = false) (hs : lo G = S) (t : decide (S < P) = false) (k12 : IntKind.i64.wrap (q - L) = q - L) (k13 : IntKind.i64.wrap (q - L + 1) = q - L + 1) (k14 : IntKind.u64.wrap (S - P) = S - P) (HM : Hid (∀ W, Calls Try.prog 52 #[.int .i64 w, .bool n, .int .i64 (q - L + 1), .int .u64 (S - P)] W fun r W' => r = .returned (.int .u64 V) ∧ Below W.heap.size W W')) :
    Calls Try.prog 65 #[.int .i64 w, .bool n, .agg #[.slice a na ca], .agg #[.slice b nb cb], .int .i64 k] w0 fun r W' => r = .returned (.int .u64 V) ∧ Below w0.heap.size w0 W' := by
  have k1 : IntKind.i64.wrap (LA - LB) = LA - LB := i64_id (by omega) (by omega)
  have k2 : IntKind.i64.wrap (LA - LB + k) = LA - LB + k := i64_id (by omega) (by omega)
  have k3 : IntKind.i64.wrap (LA - LB + k - f) = TF := by rw [← htf]; exact i64_id (by omega) (by omega)
  have rq1 : -200001 ≤ q ∧ q ≤ 200000 := by rcases hq with h | h | h <;> omega
  have k5 : IntKind.i64.wrap (k - q - f) = k - q - f := i64_id (by omega) (by omega)
  have k7 : IntKind.i64.wrap (k - q) = k - q := i64_id (by omega) (by omega)
  have k8 : IntKind.i64.wrap (f + 1) = f + 1 := i64_id (by omega) (by omega)
  have k9 : IntKind.i64.wrap (q + 1) = q + 1 := i64_id (by omega) (by omega)
  have k10 : IntKind.i64.wrap (L + Tp) = L + Tp := i64_id (by omega) (by omega)
  have k11 : IntKind.i64.wrap (L + Tp - 2) = L + Tp - 2 := i64_id (by omega) (by omega)
  have HLA := hide hla; have HLB := hide hlb
  clear hla hlb r1 r2 r3 r4 r5 r6 rq1 htf
  have HLG := hide hlg'
  clear hlg'
  have HS := hide hs
  clear hs
  
  have HX := hide hx; have HY := hide hy
  clear hx hy
  go_enter Try.func65, Try.ntmps65
  go_wp2_with fail
  have HK : Hid (TwoSt w0.heap.size w0 (.slice a na ca) (.slice b nb cb) x y ((w0.alloc (.cells #[.slice a na ca] 65)).alloc (.cells #[.slice b nb cb] 65))) :=
    { ca := by simp [go_sem], cb := by simp [go_sem], na := (unhide HX).below (below2 _ _ _), nb := (unhide HY).below (below2 _ _ _), bel := below2 _ _ _ }
  clear HX HY
  refine (unhide HF _).mono ?_
  rintro _ w1 ⟨rfl, hbl⟩
  have HK := hide ((unhide HK).below hbl)
  clear hbl
  
  go_wp2_with fail
  have HK := hide ((unhide HK).below ((Below.refl _ _).drew))
  refine wp_region_held_drew (S := fun w' => w'.cell? ⟨w0.heap.size, 0, none⟩ = some (.slice a na ca) ∧ w'.cell? ⟨w0.heap.size + 1, 0, none⟩ = some (.slice b nb cb)) (by kernel_rfl) ?_ (fun hHeld => ?_)
  · (try dsimp only)
    exact ⟨(unhide HK).ca, (unhide HK).cb⟩
  refine anyH_at #[false, false, false, false, false, false, false, false] (by kernel_rfl) ?_
  refine wpAnyH_take (i := 0) (oi := { dst := some 18, op := _, type := _, pos := _, after := _, guard := _ }) (v := ?vv0r2) rfl (by kernel_rfl) (by kernel_rfl) (by kernel_rfl) (fun _ _ _ h => h) (Or.inl ⟨by rfl, ?hy0r2⟩) (by assumption) ?rest0r2
  case hy0r2 => ((intro w hSw; (try dsimp only at hSw); go_simp) <;> with_reducible rfl)
  case rest0r2 =>
    (try simp only [Act.put, List.setIfInBounds_toArray, List.set_cons_zero, List.set_cons_succ])
    refine anyH_at #[true, false, false, false, false, false, false, false] (by kernel_rfl) ?_
    refine wpAnyH_take (i := 2) (oi := { dst := some 20, op := _, type := _, pos := _, after := _, guard := _ }) (v := ?vv2r2) rfl (by kernel_rfl) (by kernel_rfl) (by kernel_rfl) (fun _ _ _ h => h) (Or.inl ⟨by rfl, ?hy2r2⟩) (by assumption) ?rest2r2
    case hy2r2 => ((intro w hSw; (try dsimp only at hSw); go_simp) <;> with_reducible rfl)
    case rest2r2 =>
      (try simp only [Act.put, List.setIfInBounds_toArray, List.set_cons_zero, List.set_cons_succ])
      refine anyH_at #[true, false, true, false, false, false, false, false] (by kernel_rfl) ?_
      refine wpAnyH_take (i := 5) (oi := { dst := some 23, op := _, type := _, pos := _, after := _, guard := _ }) (v := ?vv5r2) rfl (by kernel_rfl) (by kernel_rfl) (by kernel_rfl) (fun _ _ _ h => h) (Or.inl ⟨by rfl, ?hy5r2⟩) (by assumption) ?rest5r2
      case hy5r2 => ((intro w hSw; (try dsimp only at hSw); go_simp) <;> with_reducible rfl)
      case rest5r2 =>
        (try simp only [Act.put, List.setIfInBounds_toArray, List.set_cons_zero, List.set_cons_succ])
        refine anyH_at #[true, false, true, false, false, true, false, false] (by kernel_rfl) ?_
        refine wpAnyH_ready (rs := [1]) (by kernel_rfl) (by simp) ?_
        refine AllReadyH.cons (o := { dst := some 19, op := _, type := _, pos := _, after := _, guard := _ }) rfl (fun Kk hKk => ?_) AllReadyH.nil
        go_simp
        refine (refLen_any _ _ _ _ _ (unhide HK).na).mono ?_
        rw [unhide HLA]
        rintro _ w2 ⟨rfl, hbl⟩
        have HK := hide ((unhide HK).below hbl)
        clear hbl
        (try go_wp2_with fail)
        refine hKk.out _ _ ?_ (fun hHeld => ?_)
        · (try dsimp only)
          exact ⟨(unhide HK).ca, (unhide HK).cb⟩
        clear hKk Kk
        (try simp only [List.setIfInBounds_toArray, List.set_cons_zero, List.set_cons_succ])
        refine anyH_at #[true, true, true, false, false, true, false, false] (by kernel_rfl) ?_
        refine wpAnyH_ready (rs := [3]) (by kernel_rfl) (by simp) ?_
        refine AllReadyH.cons (o := { dst := some 21, op := _, type := _, pos := _, after := _, guard := _ }) rfl (fun Kk hKk => ?_) AllReadyH.nil
        go_simp
        refine (refLen_any _ _ _ _ _ (unhide HK).nb).mono ?_
        rw [unhide HLB]
        rintro _ w3 ⟨rfl, hbl⟩
        have HK := hide ((unhide HK).below hbl)
        clear hbl
        (try go_wp2_with fail)
        refine hKk.out _ _ ?_ (fun hHeld => ?_)
        · (try dsimp only)
          exact ⟨(unhide HK).ca, (unhide HK).cb⟩
        clear hKk Kk
        (try simp only [List.setIfInBounds_toArray, List.set_cons_zero, List.set_cons_succ])
        refine anyH_at #[true, true, true, true, false, true, false, false] (by kernel_rfl) ?_
        refine wpAnyH_take (i := 4) (oi := { dst := some 22, op := _, type := _, pos := _, after := _, guard := _ }) (v := ?vv4r2) rfl (by kernel_rfl) (by kernel_rfl) (by kernel_rfl) (fun _ _ _ h => h) (Or.inl ⟨by rfl, ?hy4r2⟩) (by assumption) ?rest4r2
        case hy4r2 => ((intro w hSw; (try dsimp only at hSw); go_simp) <;> with_reducible rfl)
        case rest4r2 =>
          (try simp only [Act.put, List.setIfInBounds_toArray, List.set_cons_zero, List.set_cons_succ])
          refine anyH_at #[true, true, true, true, true, true, false, false] (by kernel_rfl) ?_
          refine wpAnyH_take (i := 6) (oi := { dst := some 24, op := _, type := _, pos := _, after := _, guard := _ }) (v := ?vv6r2) rfl (by kernel_rfl) (by kernel_rfl) (by kernel_rfl) (fun _ _ _ h => h) (Or.inl ⟨by rfl, ?hy6r2⟩) (by assumption) ?rest6r2
          case hy6r2 => ((intro w hSw; (try dsimp only at hSw); go_simp) <;> with_reducible rfl)
          case rest6r2 =>
            (try simp only [Act.put, List.setIfInBounds_toArray, List.set_cons_zero, List.set_cons_succ])
            refine anyH_at #[true, true, true, true, true, true, true, false] (by kernel_rfl) ?_
            refine wpAnyH_take (i := 7) (oi := { dst := some 12, op := _, type := _, pos := _, after := _, guard := _ }) (v := ?vv7r2) rfl (by kernel_rfl) (by kernel_rfl) (by kernel_rfl) (fun _ _ _ h => h) (Or.inl ⟨by rfl, ?hy7r2⟩) (by assumption) ?rest7r2
            case hy7r2 => ((intro w hSw; (try dsimp only at hSw); go_simp) <;> with_reducible rfl)
            case rest7r2 =>
              (try simp only [Act.put, List.setIfInBounds_toArray, List.set_cons_zero, List.set_cons_succ])
              refine anyH_at #[true, true, true, true, true, true, true, true] (by kernel_rfl) ?_
              refine wpAnyH_done (by kernel_rfl) ?_ _
              clear hHeld
              go_wp2_with fail
              refine (unhide HL _).mono ?_
              rintro _ w4 ⟨rfl, hbl⟩
              have HK := hide ((unhide HK).below hbl)
              clear hbl
              rcases hq with ⟨xm, rfl⟩ | ⟨rfl, rfl⟩ | ⟨xm, rfl⟩
              · clear HU
                clear k12 k13
                rw [show q - q + 1 = (1 : Int) by omega] at HM
                go_wp2_with fail
                refine (unhide HL _).mono ?_
                rintro _ w5 ⟨rfl, hbl⟩
                have HK := hide ((unhide HK).below hbl)
                clear hbl
                have ca' := (unhide HK).ca; have cb' := (unhide HK).cb
                go_wp2_with fail
                clear ca' cb'
                refine (unhide HG _ (unhide HK).na (unhide HK).nb).mono ?_
                rintro _ w7 ⟨s7, rfl, hN7, hbl⟩
                obtain ⟨a7, n7, c7, rfl⟩ := hN7.slice
                have HK := hide ((unhide HK).below hbl)
                clear hbl
                have HN : Hid ((w7.alloc (.cells #[.slice a7 n7 c7] 65)).cell? ⟨w7.heap.size, 0, none⟩ = some (.slice a7 n7 c7) ∧ (w7.alloc (.cells #[.slice a7 n7 c7] 65)).frozen? ⟨w7.heap.size, 0, none⟩ = false ∧ IsNat (w7.alloc (.cells #[.slice a7 n7 c7] 65)) (.slice a7 n7 c7) G) := ⟨by simp [go_sem], by simp [go_sem], hN7.below (below1 _ _)⟩
                have HB := hide (balloc (unhide HK).bel (.cells #[.slice a7 n7 c7] 65))
                have hz7 : w0.heap.size ≤ w7.heap.size := (unhide HK).bel.size
                clear hN7 HK
                go_wp2_with fail
                refine (refLen_any _ _ _ _ _ (unhide HN).2.2).mono ?_
                rw [unhide HLG]
                rintro _ w8 ⟨rfl, hbl⟩
                have HN := hide (And.intro (keep1 hbl (lt_of_cell (unhide HN).1) (unhide HN).1) (And.intro ((hbl.frozen (lt_of_cell (unhide HN).1)).trans (unhide HN).2.1) ((unhide HN).2.2.below hbl)))
                have HB := hide (bthen (unhide HB) hbl)
                clear hbl
                go_wp2_with fail
                refine (unhide HL _).mono ?_
                rintro _ w10 ⟨rfl, hbl⟩
                have HN := hide (And.intro (keep1 hbl (lt_of_cell (unhide HN).1) (unhide HN).1) (And.intro ((hbl.frozen (lt_of_cell (unhide HN).1)).trans (unhide HN).2.1) ((unhide HN).2.2.below hbl)))
                have HB := hide (bthen (unhide HB) hbl)
                clear hbl
                go_wp2_with fail
                refine (unhide HT _).mono ?_
                rintro _ w11 ⟨rfl, hbl⟩
                have HN := hide (And.intro (keep1 hbl (lt_of_cell (unhide HN).1) (unhide HN).1) (And.intro ((hbl.frozen (lt_of_cell (unhide HN).1)).trans (unhide HN).2.1) ((unhide HN).2.2.below hbl)))
                have HB := hide (bthen (unhide HB) hbl)
                clear hbl
                have cn := (unhide HN).1
                go_wp2_with fail
                clear cn
                refine (uint_any _ _ _ _ _ (unhide HN).2.2).mono ?_
                rw [unhide HS]
                rintro _ w12 ⟨rfl, hbl⟩
                have HB := hide (bthen (unhide HB) hbl)
                clear hbl HN
                go_wp2_with fail
                refine (unhide H2 _).mono ?_
                rintro _ w13 ⟨rfl, hbl⟩
                have HB := hide (bthen (unhide HB) hbl)
                clear hbl
                go_wp2_with fail
                refine (unhide HL _).mono ?_
                rintro _ w15 ⟨rfl, hbl⟩
                have HB := hide (bthen (unhide HB) hbl)
                clear hbl
                go_wp2_with fail
                refine (unhide H2 _).mono ?_
                rintro _ w16 ⟨rfl, hbl⟩
                have HB := hide (bthen (unhide HB) hbl)
                clear hbl
                go_wp2_with fail
                refine (unhide HM _).mono ?_
                rintro _ w14 ⟨rfl, hbl⟩
                have HB := hide (bthen (unhide HB) hbl)
                go_wp2_with fail
                go_ret
                exact ⟨rfl, unhide HB⟩
                
              · clear HU
                clear k12 k13
                rw [show q - q + 1 = (1 : Int) by omega] at HM
                go_wp2_with fail
                refine (unhide HL _).mono ?_
                rintro _ w5 ⟨rfl, hbl⟩
                have HK := hide ((unhide HK).below hbl)
                clear hbl
                have ca' := (unhide HK).ca; have cb' := (unhide HK).cb
                go_wp2_with fail
                clear ca' cb'
                refine (unhide HG _ (unhide HK).na (unhide HK).nb).mono ?_
                rintro _ w7 ⟨s7, rfl, hN7, hbl⟩
                obtain ⟨a7, n7, c7, rfl⟩ := hN7.slice
                have HK := hide ((unhide HK).below hbl)
                clear hbl
                have HN : Hid ((w7.alloc (.cells #[.slice a7 n7 c7] 65)).cell? ⟨w7.heap.size, 0, none⟩ = some (.slice a7 n7 c7) ∧ (w7.alloc (.cells #[.slice a7 n7 c7] 65)).frozen? ⟨w7.heap.size, 0, none⟩ = false ∧ IsNat (w7.alloc (.cells #[.slice a7 n7 c7] 65)) (.slice a7 n7 c7) G) := ⟨by simp [go_sem], by simp [go_sem], hN7.below (below1 _ _)⟩
                have HB := hide (balloc (unhide HK).bel (.cells #[.slice a7 n7 c7] 65))
                have hz7 : w0.heap.size ≤ w7.heap.size := (unhide HK).bel.size
                clear hN7 HK
                go_wp2_with fail
                refine (refLen_any _ _ _ _ _ (unhide HN).2.2).mono ?_
                rw [unhide HLG]
                rintro _ w8 ⟨rfl, hbl⟩
                have HN := hide (And.intro (keep1 hbl (lt_of_cell (unhide HN).1) (unhide HN).1) (And.intro ((hbl.frozen (lt_of_cell (unhide HN).1)).trans (unhide HN).2.1) ((unhide HN).2.2.below hbl)))
                have HB := hide (bthen (unhide HB) hbl)
                clear hbl
                go_wp2_with fail
                refine (unhide HL _).mono ?_
                rintro _ w10 ⟨rfl, hbl⟩
                have HN := hide (And.intro (keep1 hbl (lt_of_cell (unhide HN).1) (unhide HN).1) (And.intro ((hbl.frozen (lt_of_cell (unhide HN).1)).trans (unhide HN).2.1) ((unhide HN).2.2.below hbl)))
                have HB := hide (bthen (unhide HB) hbl)
                clear hbl
                go_wp2_with fail
                refine (unhide HT _).mono ?_
                rintro _ w11 ⟨rfl, hbl⟩
                have HN := hide (And.intro (keep1 hbl (lt_of_cell (unhide HN).1) (unhide HN).1) (And.intro ((hbl.frozen (lt_of_cell (unhide HN).1)).trans (unhide HN).2.1) ((unhide HN).2.2.below hbl)))
                have HB := hide (bthen (unhide HB) hbl)
                clear hbl
                have cn := (unhide HN).1
                go_wp2_with fail
                clear cn
                refine (uint_any _ _ _ _ _ (unhide HN).2.2).mono ?_
                rw [unhide HS]
                rintro _ w12 ⟨rfl, hbl⟩
                have HB := hide (bthen (unhide HB) hbl)
                clear hbl HN
                go_wp2_with fail
                refine (unhide H2 _).mono ?_
                rintro _ w13 ⟨rfl, hbl⟩
                have HB := hide (bthen (unhide HB) hbl)
                clear hbl
                go_wp2_with fail
                refine (unhide HL _).mono ?_
                rintro _ w15 ⟨rfl, hbl⟩
                have HB := hide (bthen (unhide HB) hbl)
                clear hbl
                go_wp2_with fail
                refine (unhide H2 _).mono ?_
                rintro _ w16 ⟨rfl, hbl⟩
                have HB := hide (bthen (unhide HB) hbl)
                clear hbl
                go_wp2_with fail
                refine (unhide HM _).mono ?_
                rintro _ w14 ⟨rfl, hbl⟩
                have HB := hide (bthen (unhide HB) hbl)
                go_wp2_with fail
                go_ret
                exact ⟨rfl, unhide HB⟩
                
              · have HU := HU xm
                have xn : ¬ q < L := by omega
                have xd := dt xm
                go_wp2_with fail
                refine (unhide HL _).mono ?_
                rintro _ w5 ⟨rfl, hbl⟩
                have HK := hide ((unhide HK).below hbl)
                clear hbl
                have ca' := (unhide HK).ca; have cb' := (unhide HK).cb
                go_wp2_with fail
                clear ca' cb'
                refine (unhide HU _ (unhide HK).na (unhide HK).nb).mono ?_
                rintro _ w6 ⟨rfl, hbl⟩
                have HK := hide ((unhide HK).below hbl)
                clear hbl
                have ca' := (unhide HK).ca; have cb' := (unhide HK).cb
                go_wp2_with fail
                clear ca' cb'
                refine (unhide HG _ (unhide HK).na (unhide HK).nb).mono ?_
                rintro _ w7 ⟨s7, rfl, hN7, hbl⟩
                obtain ⟨a7, n7, c7, rfl⟩ := hN7.slice
                have HK := hide ((unhide HK).below hbl)
                clear hbl
                have HN : Hid ((w7.alloc (.cells #[.slice a7 n7 c7] 65)).cell? ⟨w7.heap.size, 0, none⟩ = some (.slice a7 n7 c7) ∧ (w7.alloc (.cells #[.slice a7 n7 c7] 65)).frozen? ⟨w7.heap.size, 0, none⟩ = false ∧ IsNat (w7.alloc (.cells #[.slice a7 n7 c7] 65)) (.slice a7 n7 c7) G) := ⟨by simp [go_sem], by simp [go_sem], hN7.below (below1 _ _)⟩
                have HB := hide (balloc (unhide HK).bel (.cells #[.slice a7 n7 c7] 65))
                have hz7 : w0.heap.size ≤ w7.heap.size := (unhide HK).bel.size
                clear hN7 HK
                go_wp2_with fail
                refine (refLen_any _ _ _ _ _ (unhide HN).2.2).mono ?_
                rw [unhide HLG]
                rintro _ w8 ⟨rfl, hbl⟩
                have HN := hide (And.intro (keep1 hbl (lt_of_cell (unhide HN).1) (unhide HN).1) (And.intro ((hbl.frozen (lt_of_cell (unhide HN).1)).trans (unhide HN).2.1) ((unhide HN).2.2.below hbl)))
                have HB := hide (bthen (unhide HB) hbl)
                clear hbl
                go_wp2_with fail
                refine (unhide HL _).mono ?_
                rintro _ w10 ⟨rfl, hbl⟩
                have HN := hide (And.intro (keep1 hbl (lt_of_cell (unhide HN).1) (unhide HN).1) (And.intro ((hbl.frozen (lt_of_cell (unhide HN).1)).trans (unhide HN).2.1) ((unhide HN).2.2.below hbl)))
                have HB := hide (bthen (unhide HB) hbl)
                clear hbl
                go_wp2_with fail
                refine (unhide HT _).mono ?_
                rintro _ w11 ⟨rfl, hbl⟩
                have HN := hide (And.intro (keep1 hbl (lt_of_cell (unhide HN).1) (unhide HN).1) (And.intro ((hbl.frozen (lt_of_cell (unhide HN).1)).trans (unhide HN).2.1) ((unhide HN).2.2.below hbl)))
                have HB := hide (bthen (unhide HB) hbl)
                clear hbl
                have cn := (unhide HN).1
                go_wp2_with fail
                clear cn
                refine (uint_any _ _ _ _ _ (unhide HN).2.2).mono ?_
                rw [unhide HS]
                rintro _ w12 ⟨rfl, hbl⟩
                have HB := hide (bthen (unhide HB) hbl)
                clear hbl HN
                go_wp2_with fail
                refine (unhide H2 _).mono ?_
                rintro _ w13 ⟨rfl, hbl⟩
                have HB := hide (bthen (unhide HB) hbl)
                clear hbl
                go_wp2_with fail
                refine (unhide HL _).mono ?_
                rintro _ w15 ⟨rfl, hbl⟩
                have HB := hide (bthen (unhide HB) hbl)
                clear hbl
                go_wp2_with fail
                refine (unhide H2 _).mono ?_
                rintro _ w16 ⟨rfl, hbl⟩
                have HB := hide (bthen (unhide HB) hbl)
                clear hbl
                go_wp2_with fail
                refine (unhide HM _).mono ?_
                rintro _ w14 ⟨rfl, hbl⟩
                have HB := hide (bthen (unhide HB) hbl)
                go_wp2_with fail
                go_ret
                exact ⟨rfl, unhide HB⟩
                

end Go.Proofs.Yticbhdgamblmbaa
