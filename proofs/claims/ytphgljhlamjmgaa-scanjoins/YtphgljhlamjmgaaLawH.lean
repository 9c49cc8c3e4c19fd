/- The law ScanJoins. -/
import Derived.Test.YtphgljhlamjmgaaLawF
namespace Go.Proofs.Ytphgljhlamjmgaa
open Go.RowKit

/-- A blind reader beside a cursor: what the closure does. -/
theorem blind_in {c : Nat} {a : Option Addr} {len cap k : Nat} {xs : List Int} {e : Int} {K n : Int} {w : World} (h : Cs c a len cap xs k e w) :
    Calls Try.prog 9 #[.pointer (some ⟨c, 0, none⟩), .pointer (some ⟨w.heap.size, 0, none⟩), .agg #[.int .i64 K, .int .i64 n]] (w.alloc (.cells #[.slice none 0 0, .int .i64 0, .int .i64 1] 29)) fun R w' => ∃ t, R = .returned (.bool t) ∧ Cs c a len cap xs (stp K n xs k e).1 (stp K n xs k e).2 w' ∧ Fr [c] w w' := by
  have hT : Tw c a len cap xs k e w.heap.size none 0 0 [] 0 1 (w.alloc (.cells #[.slice none 0 0, .int .i64 0, .int .i64 1] 29)) := ⟨h.alloc _, cs_bare w 1 29, by have := h.1.lt; omega, fun p hp h0 => by have := h.2.1.lt p hp h0; omega, by simp⟩
  refine (read_any (K := K) (n := n) hT).mono ?_
  rintro _ w' ⟨⟨t, rfl, _⟩, hT, hG⟩
  exact ⟨t, rfl, hT.1, ((Fr.refl [c] w).alloc _).thenL hG (by simp)⟩
set_option maxHeartbeats 1000000 in
set_option maxRecDepth 100000 in
theorem new_own {x1 : Option Addr} {x2 x3 : Nat} {ys : List Int} {W : World} (h : Sl W x1 x2 x3 ys) (hl : x2 ≤ 6000) (hy : Byt ys) :
    Calls Try.prog 8 #[.slice x1 x2 x3] W fun r W' => ∃ c y1 y3, r = .returned (.pointer (some ⟨c, 0, none⟩)) ∧ Cs c y1 x2 y3 ys 0 0 W' ∧ W.heap.size ≤ c ∧ (∀ p, y1 = some p → 0 < x2 → W.heap.size ≤ p.block) ∧ Fr [] W W' := by
  have HC := hide (clone_any h hl)
  have HY := hide hy
  clear h hy
  go_enter Try.func8, Try.ntmps8
  go_wp2_with fail
  refine (unhide HC).mono ?_
  rintro _ w1 ⟨y1, y3, rfl, hN, hF⟩
  have HN := hide hN
  have HF := hide hF
  clear hN hF
  go_wp2_with fail
  go_ret
  refine ⟨w1.heap.size, y1, y3, rfl, ⟨⟨?_, ?_, ?_, ?_⟩, (unhide HN).1.below (below1 _ _), ?_, unhide HY, Nat.zero_le _, hl⟩, (unhide HF).size, (unhide HN).2, (unhide HF).alloc _⟩
  · simp [go_sem]
  · simp [go_sem]
  · simp [go_sem]
  · intro o ho
    have := (room_cells (cs := [.slice y1 x2 y3, .int .i64 0, .int .i64 0]) (t := 43) w1 3 (by simp)) o ho
    exact this.2
  · intro p hp h0
    have := (unhide HN).1.lt p hp h0
    omega
set_option maxHeartbeats 1000000 in
set_option maxRecDepth 100000 in
theorem clos_any {c : Nat} {a : Option Addr} {len cap k : Nat} {xs : List Int} {e : Int} {K n : Int} {o : Nat} {W : World} (h : Cs c a len cap xs k e W) (ho : At2 o (.int .i64 K) (.int .i64 n) W) :
    Calls Try.prog 14 #[.pointer (some ⟨c, 0, none⟩), .pointer (some ⟨o, 0, none⟩)] W fun R w' => R = .returned (.tuple #[]) ∧ Cs c a len cap xs (stp K n xs k e).1 (stp K n xs k e).2 w' ∧ Fr [c] W w' := by
  have HN := hide (blind_in (K := K) (n := n) h)
  obtain ⟨o1, o2⟩ := ho.fr (Fr.of (below1 W (.cells #[.slice none 0 0, .int .i64 0, .int .i64 1] 29)) []) (by simp)
  clear h ho
  go_enter Try.func14, Try.ntmps14
  go_wp2_with fail
  refine (unhide HN).mono ?_
  rintro _ w1 ⟨t, rfl, hC, hF⟩
  have HC := hide hC
  have HF := hide hF
  clear hC hF o1 o2
  go_wp2_with fail
  exact bodyPost_end (results_none rfl _ _ _) rfl ⟨rfl, unhide HC, unhide HF⟩
set_option maxHeartbeats 1000000 in
set_option maxRecDepth 100000 in
theorem joins_long {a : Option Addr} {len cap : Nat} {b : Option Addr} {lem cbp : Nat} {K n : Int} {W : World} (h : 3000 < len ∨ ¬ 3000 < len ∧ 3000 < lem ∨ ¬ 3000 < len ∧ ¬ 3000 < lem ∧ K = 15) :
    Calls Try.prog 6 #[.slice a len cap, .slice b lem cbp, .agg #[.int .i64 K, .int .i64 n]] W fun r W' => r = .returned (.bool true) ∧ Below W.heap.size W W' := by
  have HA := awake_any
  have HO : Hid (At2 W.heap.size (.int .i64 K) (.int .i64 n) (W.alloc (.cells #[.int .i64 K, .int .i64 n] 31))) := hide (by unfold At2; simp [go_sem])
  have HF := hide (below1 W (.cells #[.int .i64 K, .int .i64 n] 31))
  go_enter Try.func6, Try.ntmps6
  go_wp2_with fail
  refine (unhide HA _).mono ?_
  rintro _ w1 ⟨rfl, hb⟩
  have HF9 := hide (bthen (unhide HF) hb)
  obtain ⟨o1, o2⟩ := (unhide HO).fr (Fr.of hb []) (by simp)
  clear hb
  rcases h with h | ⟨h1, h2⟩ | ⟨h1, h2, rfl⟩
  · have h' : (3000 : Int) < len := by omega
    go_wp2_with fail
    go_ret
    exact ⟨rfl, unhide HF9⟩
  · have h' : ¬ (3000 : Int) < len := by omega
    have h3 : (3000 : Int) < lem := by omega
    go_wp2_with fail
    go_ret
    exact ⟨rfl, unhide HF9⟩
  · have h' : ¬ (3000 : Int) < len := by omega
    have h3 : ¬ (3000 : Int) < lem := by omega
    go_wp2_with fail
    go_ret
    exact ⟨rfl, unhide HF9⟩
set_option maxHeartbeats 4000000 in
set_option maxRecDepth 100000 in
theorem joins_any {a : Option Addr} {len cap : Nat} {xs : List Int} {b : Option Addr} {lem cbp : Nat} {ys : List Int} {K n : Int} {W : World} (hS : Sl W a len cap xs) (hy : Byt xs) (hl : len ≤ 3000) (hT : Sl W b lem cbp ys) (hz : Byt ys) (hm : lem ≤ 3000) (hK : K ≠ 15) :
    Calls Try.prog 6 #[.slice a len cap, .slice b lem cbp, .agg #[.int .i64 K, .int .i64 n]] W fun r W' => r = .returned (.bool true) ∧ Below W.heap.size W W' := by
  have HA := awake_any
  have HO : Hid (At2 W.heap.size (.int .i64 K) (.int .i64 n) (W.alloc (.cells #[.int .i64 K, .int .i64 n] 31))) := hide (by unfold At2; simp [go_sem])
  have HF := hide ((Fr.refl [] W).alloc (.cells #[.int .i64 K, .int .i64 n] 31))
  have HSa := hide hS
  have HSb := hide hT
  have HYa := hide hy
  have HYb := hide hz
  have HK := hide hK
  have HXa := hide hS.1
  have h1' : ¬ (3000 : Int) < len := by omega
  have h2' : ¬ (3000 : Int) < lem := by omega
  have d15 : (K == 15) = false := beq_eq_false_iff_ne.2 hK
  clear hS hT hy hz hK
  go_enter Try.func6, Try.ntmps6
  go_wp2_with fail
  refine (unhide HA _).mono ?_
  rintro _ w1 ⟨rfl, hb⟩
  have HF1 := hide ((unhide HF).bel hb)
  have HO1 := hide ((unhide HO).fr (Fr.of hb []) (by simp))
  have hoz : W.heap.size < w1.heap.size := World.block_lt_of_cell? w1 _ (unhide HO1).1
  have HSa1 := hide ((unhide HSa).fr (unhide HF1) (by simp))
  have HSb1 := hide ((unhide HSb).fr (unhide HF1) (by simp))
  have HN := hide (new_any (unhide HSa1) (by omega) (unhide HYa))
  obtain ⟨o1, o2⟩ := unhide HO1
  clear hb
  go_wp2_with fail
  refine (unhide HN).mono ?_
  rintro _ w2 ⟨c, y1, y3, rfl, hC, hc, hF⟩
  have HO2 := hide ((unhide HO1).fr hF (by simp))
  have HF2 := hide ((unhide HF1).trans hF)
  have hSa2 := (unhide HSa1).fr hF (by simp)
  have hSb2 := (unhide HSb1).fr hF (by simp)
  obtain ⟨a1, cap1, w3, q1, q2, q3, q4⟩ := app_run (ow_lit w2 [] 0 rfl (by omega)) (by simp) (hSa2.below (below1 w2 (.cells (bys []).toArray 5))) (by simp; omega)
  have e1 : List.length ([] : List Int) + len = len := by simp
  rw [e1] at q1 q2 q3
  rw [List.nil_append] at q2 q3
  have b3 : Below w2.heap.size w2 w3 := (below1 w2 (.cells (bys []).toArray 5)).trans q4
  obtain ⟨a2, cap2, w4, p1, p2, p3, p4⟩ := app_run q2 b3.size (hSb2.below b3) (by rw [unhide HXa]; omega)
  rw [unhide HXa] at p1 p2 p3
  have b4 : Below w2.heap.size w2 w4 := b3.trans p4
  have HR1 : Hid ((Builtin.append_ #[22, 22] 22 #[.slice (some ⟨w2.heap.size, 0, none⟩) 0 0, .slice a len cap]).run Try.prog (w2.alloc (.cells #[] 5)) = .ok (.slice a1 len cap1) w3) := hide q1
  have HR2 := hide p1
  have HO4 := hide ((unhide HO2).fr (Fr.of b4 []) (by simp))
  have HF4 := hide ((unhide HF2).bel b4)
  have HC4 := hide (hC.bel b4)
  have HSb4 := hide (hSb2.below b4)
  have hcw : c < w4.heap.size := (unhide HC4).1.lt
  have hcl : W.heap.size < c := by omega
  have hoz4 := b4.size
  have hc2 := hF.size
  have HN4 := hide (new_own p3 (by omega) (fun x hx => by rcases List.mem_append.1 hx with h | h; exact unhide HYa x h; exact unhide HYb x h))
  clear hC hc hF hSa2 hSb2 q1 q2 q3 q4 p1 p2 p3 p4 b3 b4 e1 o1 o2
  go_wp2_with (at_builtin; first | refine wpList_app (w := w2.alloc (.cells #[] 5)) (by rfl) rfl rfl (unhide HR1) ?_ | refine wpList_app (w := w3) (by rfl) rfl rfl (unhide HR2) ?_)
  refine (unhide HN4).mono ?_
  rintro _ w5 ⟨d, z1, z3, rfl, hC, hd, hZ, hF⟩
  have HO5 := hide ((unhide HO4).fr hF (by simp))
  have HF5 := hide ((unhide HF4).trans hF)
  have HC5 := hide ((unhide HC4).bel hF.nil)
  have HD5 := hide hC
  have HSb5 := hide ((unhide HSb4).fr hF (by simp))
  have hcd : c ≠ d := by omega
  have hdo : W.heap.size < d := by omega
  have HPc := hide (show ∀ p, y1 = some p → 0 < len → p.block ≠ d from fun p hp h0 => by have := (unhide HC4).2.1.lt p hp h0; omega)
  have HPd := hide (show ∀ p, z1 = some p → 0 < len + lem → p.block ≠ c from fun p hp h0 => by have := hZ p hp h0; omega)
  have HPb := hide (show ∀ p, b = some p → 0 < lem → p.block < W.heap.size from (unhide HSb).lt)
  have HQ5 := hide (clos_any (K := K) (n := n) (unhide HC5) (unhide HO5))
  clear hC hd hF hcw hZ
  go_wp2_with fail
  refine (unhide HQ5).mono ?_
  rintro _ w6 ⟨rfl, hC, hF⟩
  have HO6 := hide ((unhide HO5).fr hF (by simp; omega))
  have HF6 := hide ((unhide HF5).thenL (l := []) hF (by simp; omega))
  have HC6 := hide hC
  have HD6 := hide ((unhide HD5).fr hF (by simpa using hcd.symm) (fun p hp h0 => by simpa using unhide HPd p hp h0))
  have HSb6 := hide ((unhide HSb5).fr hF (fun p hp h0 => by have := unhide HPb p hp h0; simp; omega))
  have HQ6 := hide (clos_any (K := K) (n := n) (unhide HD6) (unhide HO6))
  clear hC hF
  go_wp2_with fail
  refine (unhide HQ6).mono ?_
  rintro _ w7 ⟨rfl, hC, hF⟩
  have HO7 := hide ((unhide HO6).fr hF (by simp; omega))
  have HF7 := hide ((unhide HF6).thenL (l := []) hF (by simp; omega))
  have HC7 := hide ((unhide HC6).fr hF (by simpa using hcd) (fun p hp h0 => by simpa using unhide HPc p hp h0))
  have HD7 := hide hC
  have HSb7 := hide ((unhide HSb6).fr hF (fun p hp h0 => by have := unhide HPb p hp h0; simp; omega))
  clear hC hF
  have HLc := hide (stp_loc (n := n) (unhide HK) xs ys)
  have HLn := hide (stp_len (n := n) (unhide HK) xs 0 0 (Nat.zero_le _))
  obtain ⟨⟨k1, e1⟩, hst⟩ : ∃ t, stp K n xs 0 0 = t := ⟨_, rfl⟩
  rw [hst] at HC7 HLc HLn
  obtain ⟨⟨k2, e2⟩, hst2⟩ : ∃ t, stp K n (xs ++ ys) 0 0 = t := ⟨_, rfl⟩
  rw [hst2] at HD7 HLc
  dsimp only at HC7 HD7 HLc HLn
  clear hst hst2
  by_cases h100 : e1 = 100
  · have g0 : (e1 == 100) = true := by rw [h100]; rfl
    clear h100
    go_wp2_with fail
    refine (err_any (unhide HC7)).mono ?_
    rintro _ wx ⟨rfl, rfl⟩
    go_wp2_with fail
    go_ret
    exact ⟨rfl, (unhide HF7).nil⟩
  have g0 : (e1 == 100) = false := beq_eq_false_iff_ne.2 h100
  have hq := unhide HLc h100
  injection hq with hq1 hq2
  rw [hq1, hq2] at HD7
  have t1 : (e1 != e1) = false := bne_self_eq_false _
  have t2 : ((k1 : Int) != (k1 : Int)) = false := bne_self_eq_false _
  have hkl : k1 ≤ len := by have := (unhide HLn).2; rw [unhide HXa] at this; exact this
  have HZ := hide (And.intro hq1 hq2)
  clear hq1 hq2 h100 HLc HLn
  go_wp2_with fail
  refine (err_any (unhide HC7)).mono ?_
  rintro _ wx ⟨rfl, rfl⟩
  go_wp2_with fail
  refine (err_any (unhide HC7)).mono ?_
  rintro _ wx ⟨rfl, rfl⟩
  go_wp2_with fail
  refine (err_any (unhide HD7)).mono ?_
  rintro _ wx ⟨rfl, rfl⟩
  go_wp2_with fail
  refine (at_any (unhide HC7)).mono ?_
  rintro _ wx ⟨rfl, rfl⟩
  go_wp2_with fail
  refine (at_any (unhide HD7)).mono ?_
  rintro _ wx ⟨rfl, rfl⟩
  by_cases he : e1 ≠ 0
  · have g1 : (e1 != 0) = true := bne_iff_ne.2 he
    go_wp2_with fail
    refine (err_any (unhide HC7)).mono ?_
    rintro _ wx ⟨rfl, rfl⟩
    go_wp2_with fail
    go_ret
    exact ⟨rfl, (unhide HF7).nil⟩
  have HE : Hid (e1 = 0) := hide (Decidable.not_not.1 he)
  have g1 : (e1 != 0) = false := by rw [unhide HE]; rfl
  clear he
  go_wp2_with fail
  refine (err_any (unhide HC7)).mono ?_
  rintro _ wx ⟨rfl, rfl⟩
  go_wp2_with fail
  refine (left2_any (unhide HC7)).mono ?_
  rintro _ w8 ⟨rfl, hG⟩
  have HC8 := hide ((unhide HC7).bel hG.nil)
  have HD8 := hide ((unhide HD7).bel hG.nil)
  have HO8 := hide ((unhide HO7).fr hG (by simp))
  have HF8 := hide ((unhide HF7).trans hG)
  have HSb8 := hide ((unhide HSb7).fr hG (by simp))
  clear hG
  by_cases hlt : k1 < len
  · have g2 : (0 : Int) < (len : Int) - k1 := by omega
    go_wp2_with fail
    go_ret
    exact ⟨rfl, (unhide HF8).nil⟩
  have g2 : ¬ (0 : Int) < (len : Int) - k1 := by omega
  have hkk : k1 = len := by omega
  have HNz := hide (new_own (unhide HSb8) (by omega) (unhide HYb))
  go_wp2_with fail
  refine (unhide HNz).mono ?_
  rintro _ w9 ⟨f, u1, u3, rfl, hC, hd, hZ, hF⟩
  have HO9 := hide ((unhide HO8).fr hF (by simp))
  have HF9 := hide ((unhide HF8).trans hF)
  have HD9 := hide ((unhide HD8).bel hF.nil)
  have HZ9 := hide hC
  have hfd : f ≠ d := by have := (unhide HD8).1.lt; omega
  have HPz := hide (show ∀ p, z1 = some p → 0 < len + lem → p.block ≠ f from fun p hp h0 => by have := (unhide HD8).2.1.lt p hp h0; omega)
  have HPf := hide (show ∀ p, u1 = some p → 0 < lem → p.block ≠ d from fun p hp h0 => by have := hZ p hp h0; have := (unhide HD8).1.lt; omega)
  have hfo : W.heap.size < f := by have h9 : W.heap.size < w8.heap.size := World.block_lt_of_cell? w8 _ (unhide HO8).1; omega
  have HQ9 := hide (clos_any (K := K) (n := n) (unhide HZ9) (unhide HO9))
  clear hC hd hF hZ
  go_wp2_with fail
  refine (unhide HQ9).mono ?_
  rintro _ w10 ⟨rfl, hC, hF⟩
  have HO10 := hide ((unhide HO9).fr hF (by simp; omega))
  have HF10 := hide ((unhide HF9).thenL (l := []) hF (by simp; omega))
  have HD10 := hide ((unhide HD9).fr hF (by simpa using hfd.symm) (fun p hp h0 => by simpa using unhide HPz p hp h0))
  have HZ10 := hide hC
  have HQ10 := hide (clos_any (K := K) (n := n) (unhide HD10) (unhide HO10))
  clear hC hF
  go_wp2_with fail
  refine (unhide HQ10).mono ?_
  rintro _ w11 ⟨rfl, hC, hF⟩
  have HF11 := hide ((unhide HF10).thenL (l := []) hF (by simp; omega))
  have HZ11 := hide ((unhide HZ10).fr hF (by simpa using hfd) (fun p hp h0 => by simpa using unhide HPf p hp h0))
  have HD11 := hide hC
  clear hC hF
  have hsh := stp_shift (n := n) (unhide HK) (xs ++ ys) k1 e1
  rw [unhide HE, hkk, List.drop_left' (unhide HXa)] at hsh
  rw [unhide HE, hkk, hsh] at HD11
  clear hsh
  obtain ⟨⟨k3, e3⟩, hst⟩ : ∃ t, stp K n ys 0 0 = t := ⟨_, rfl⟩
  rw [hst] at HD11 HZ11
  dsimp only at HD11 HZ11
  have hk3 : k3 ≤ lem := (unhide HZ11).2.2.2.2.1
  have t3 : IntKind.i64.wrap (((len + k3 : Nat) : Int) - (len : Int)) = (k3 : Int) := by rw [i64_id (by omega) (by omega)]; omega
  clear hst
  go_wp2_with fail
  refine (err_any (unhide HZ11)).mono ?_
  rintro _ wx ⟨rfl, rfl⟩
  go_wp2_with fail
  refine (err_any (unhide HD11)).mono ?_
  rintro _ wx ⟨rfl, rfl⟩
  go_wp2_with fail
  refine (at_any (unhide HZ11)).mono ?_
  rintro _ wx ⟨rfl, rfl⟩
  go_wp2_with fail
  refine (at_any (unhide HD11)).mono ?_
  rintro _ wx ⟨rfl, rfl⟩
  go_wp2_with fail
  go_ret
  exact ⟨retb (by rw [beq_iff_eq]; omega), (unhide HF11).nil⟩
end Go.Proofs.Ytphgljhlamjmgaa
