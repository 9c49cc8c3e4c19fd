/- The law ScanKeeps. -/
import Derived.Test.YtphgljhlamjmgaaLawF
namespace Go.Proofs.Ytphgljhlamjmgaa
open Go.RowKit

set_option maxHeartbeats 1000000 in
set_option maxRecDepth 100000 in
theorem keeps_long {a : Option Addr} {len cap : Nat} {oa : Option Addr} {on oc : Nat} {W : World} (h : 6000 < len ∨ ¬ 6000 < len ∧ 60 < on) :
    Calls Try.prog 5 #[.slice a len cap, .slice oa on oc] W fun r W' => r = .returned (.bool true) ∧ Below W.heap.size W W' := by
  have HA := awake_any
  go_enter Try.func5, Try.ntmps5
  go_wp2_with fail
  refine (unhide HA _).mono ?_
  rintro _ w1 ⟨rfl, hb⟩
  have HB := hide hb
  clear hb
  rcases h with h | ⟨h1, h2⟩
  · have h' : (6000 : Int) < len := by omega
    go_wp2_with fail
    go_ret
    exact ⟨rfl, unhide HB⟩
  · have h' : ¬ (6000 : Int) < len := by omega
    have h3 : (60 : Int) < on := by omega
    go_wp2_with fail
    go_ret
    exact ⟨rfl, unhide HB⟩
/-- A blind reader beside a cursor. -/
theorem blind_any {c : Nat} {a : Option Addr} {len cap k : Nat} {xs : List Int} {e : Int} {K n : Int} {W w : World} (h : Cs c a len cap xs k e w) (hr : Cs w.heap.size none 0 0 [] 0 1 (w.alloc (.cells #[.slice none 0 0, .int .i64 0, .int .i64 1] 29))) (hF : Fr [c] W w) :
    Calls Try.prog 9 #[.pointer (some ⟨c, 0, none⟩), .pointer (some ⟨w.heap.size, 0, none⟩), .agg #[.int .i64 K, .int .i64 n]] (w.alloc (.cells #[.slice none 0 0, .int .i64 0, .int .i64 1] 29)) fun R w' => ∃ t, R = .returned (.bool t) ∧ Cs c a len cap xs (stp K n xs k e).1 (stp K n xs k e).2 w' ∧ Fr [c] W w' := by
  have hT : Tw c a len cap xs k e w.heap.size none 0 0 [] 0 1 (w.alloc (.cells #[.slice none 0 0, .int .i64 0, .int .i64 1] 29)) := ⟨h.alloc _, hr, by have := h.1.lt; omega, fun p hp h0 => by have := h.2.1.lt p hp h0; omega, by simp⟩
  refine (read_any (K := K) (n := n) hT).mono ?_
  rintro _ w' ⟨⟨t, rfl, _⟩, hT, hG⟩
  exact ⟨t, rfl, hT.1, (hF.alloc _).thenL hG (by have := hF.size; simp; omega)⟩
theorem sl_tail1 {w : World} {len cap k : Nat} {xs : List Int} (h : Sl w none len cap xs) (h0 : len = 0) (h1 : cap = 0) : Sl w none (len - k) (cap - k) (xs.drop k) :=
  ⟨by rw [List.length_drop, h.1], by omega, by omega, Or.inl ⟨rfl, by omega, by omega⟩⟩
theorem sl_tail2 {w : World} {b off len cap k : Nat} {xs : List Int} (h : Sl w (some ⟨b, off, none⟩) len cap xs) (hc : cap = k) : Sl w (some ⟨b, off, none⟩) (len - k) (cap - k) (xs.drop k) :=
  ⟨by rw [List.length_drop, h.1], by have := h.2.1; omega, by have := h.2.2.1; omega, Or.inr ⟨b, off, rfl, fun j hj => by have := h.2.1; omega⟩⟩
theorem sl_tail3 {w : World} {b off len cap k : Nat} {xs : List Int} (h : Sl w (some ⟨b, off, none⟩) len cap xs) (hk : k ≤ len) : Sl w (some ⟨b, off + k, none⟩) (len - k) (cap - k) (xs.drop k) := by
  have := h.part (k := k) (n := len - k) (by omega) (cap - k) (by have := h.2.1; omega)
  rw [List.take_of_length_le (by rw [List.length_drop, h.1]; omega)] at this
  exact this
set_option maxHeartbeats 8000000 in
set_option maxRecDepth 100000 in
theorem keeps_any {a : Option Addr} {len cap : Nat} {xs : List Int} {oa : Option Addr} {on oc : Nat} {os : List (Int × Int)} {W : World} (hS : Sl W a len cap xs) (hy : Byt xs) (hl : len ≤ 6000) (hO : Ro W oa on oc os) (ho : on ≤ 60) :
    Calls Try.prog 5 #[.slice a len cap, .slice oa on oc] W fun r W' => r = .returned (.bool true) ∧ Below W.heap.size W W' := by
  have HA := awake_any
  have HS := hide hS
  have HY := hide hy
  have HRo := hide hO
  have h' : ¬ (6000 : Int) < len := by omega
  have h3 : ¬ (60 : Int) < on := by omega
  have hoc := hO.2.1
  have hlc := hS.2.1
  have HX := hide hS.1
  clear hS hy hO
  go_enter Try.func5, Try.ntmps5
  go_wp2_with fail
  refine (unhide HA _).mono ?_
  rintro _ w1 ⟨rfl, hb⟩
  have HF := hide (Fr.of hb [])
  have HN := hide (new_any ((unhide HS).below hb) hl (unhide HY))
  clear hb
  go_wp2_with fail
  refine (unhide HN).mono ?_
  rintro _ w2 ⟨c, y1, y3, rfl, hC, hc, hF⟩
  have HC := hide hC
  have hz1 := (unhide HF).size
  have hc' : W.heap.size ≤ c := by omega
  have HF := hide ((unhide HF).trans hF)
  clear hC hc hF hz1 HN
  go_wp2_with fail
  go_loopw [25] (fun v25 wr => ∃ (i k : Nat) (e : Int), i ≤ on ∧ v25 = .int .i64 (i : Int) ∧ Cs c y1 len y3 xs k e wr ∧ Fr [] W wr) (fun v25 _ => on - (intOf v25).toNat)
  case atStart => exact ⟨0, 0, 0, by omega, rfl, unhide HC, unhide HF⟩
  case round =>
    obtain ⟨i, k, e, hi, rfl, hC, hF⟩ := hrel
    have HZ := hide hF
    have HC := hide hC
    have hk := hC.2.2.2.2.1
    clear hF hC
    by_cases hlt : i < on
    · have hi' : (i : Int) < (on : Int) := by omega
      obtain ⟨ob, oo, K, n, rfl, hK, hn⟩ := ((unhide HRo).fr (unhide HZ)).at hlt
      have HO : Hid (At2 wr.heap.size (.int .i64 K) (.int .i64 n) (wr.alloc (.cells #[.int .i64 K, .int .i64 n] 31))) := hide (by unfold At2; simp [go_sem])
      have hcl := (unhide HC).1.lt
      have HC := hide ((unhide HC).alloc (.cells #[.int .i64 K, .int .i64 n] 31))
      have HQ := hide ((unhide HZ).alloc (.cells #[.int .i64 K, .int .i64 n] 31))
      have HF := hide (Fr.refl [c] (wr.alloc (.cells #[.int .i64 K, .int .i64 n] 31)))
      by_cases h15 : K = 15
      · subst h15
        go_wp2_with fail
        exact ⟨⟨i + 1, k, e, by omega, by go_num, unhide HC, unhide HQ⟩, by simp [intOf]; omega⟩
      · have d15 : (K == 15) = false := beq_eq_false_iff_ne.2 h15
        have H15 := hide h15
        clear h15
        go_wp2_with fail
        clear hK hn
        generalize wr.alloc (.cells #[.int .i64 K, .int .i64 n] 31) = wo at *
        refine (at_any (unhide HC)).mono ?_
        rintro _ wx ⟨rfl, rfl⟩
        go_wp2_with fail
        refine (err_any (unhide HC)).mono ?_
        rintro _ wx ⟨rfl, rfl⟩
        have hoz : wr.heap.size < wx.heap.size := World.block_lt_of_cell? wx _ (unhide HO).1
        have HB := hide (cs_bare wx 1 29)
        have HP := hide ((unhide HO).fr (Fr.of (below1 wx (.cells #[.slice none 0 0, .int .i64 0, .int .i64 1] 29)) []) (by simp))
        obtain ⟨o1, o2⟩ := unhide HP
        have HN := hide (blind_any (K := K) (n := n) (unhide HC) (unhide HB) (unhide HF))
        go_wp2_with fail
        refine (unhide HN).mono ?_
        rintro _ w3 ⟨t, rfl, hC, hF⟩
        have HO3 := hide ((unhide HO).fr hF (by simp; omega))
        have hl1 := stp_len (n := n) (unhide H15) xs k e (by rw [unhide HX]; exact hk)
        have HD := hide (fun h => stp_dead (n := n) (unhide H15) xs k (e := e) h)
        have HBk := hide (stp_back (n := n) (unhide H15) xs k e)
        have HSh := hide (stp_shift (n := n) (unhide H15) xs k e)
        obtain ⟨⟨k1, e1⟩, hst⟩ : ∃ t, stp K n xs k e = t := ⟨_, rfl⟩
        rw [hst] at hC hl1 HD HBk HSh
        rw [unhide HX] at hl1
        have HC3 := hide hC
        have HF3 := hide hF
        have hw : IntKind.i64.wrap ((len : Int) - k1) = (len : Int) - k1 := i64_id (by omega) (by omega)
        have g1 : ¬ (k1 : Int) < (k : Int) := by dsimp only at hl1; omega
        have g2 : ¬ (len : Int) < (k1 : Int) := by dsimp only at hl1; omega
        dsimp only at HC3 HBk HSh
        clear hC hF hst hl1 o1 o2 HN
        by_cases he : e = 0
        · have d : (e != 0) = false := by rw [he]; rfl
          have d2 : (e == 0) = true := by rw [he]; rfl
          rw [he] at HSh
          clear HD he
          by_cases hf : e1 = 0
          · have f1 : (e1 != 0) = false := by rw [hf]; rfl
            clear hf HBk
            go_wp2_with fail
            refine (at_any (unhide HC3)).mono ?_
            rintro _ wx ⟨rfl, rfl⟩
            go_wp2_with fail
            refine (at_any (unhide HC3)).mono ?_
            rintro _ wx ⟨rfl, rfl⟩
            go_wp2_with fail
            refine (left2_any (unhide HC3)).mono ?_
            rintro _ wy ⟨rfl, hG⟩
            have HC4 := hide ((unhide HC3).bel hG.nil)
            have HO4 := hide ((unhide HO3).fr hG (by simp))
            have HF4 := hide ((unhide HF3).trans (hG.mono (by simp)))
            clear hG
            go_wp2_with fail
            refine (at_any (unhide HC4)).mono ?_
            rintro _ wx ⟨rfl, rfl⟩
            go_wp2_with fail
            refine (err_any (unhide HC4)).mono ?_
            rintro _ wx ⟨rfl, rfl⟩
            have HS4 := hide (((unhide HS).fr (unhide HQ) (by simp)).fr (unhide HF4) (fun p hp h0 => by have := (unhide HS).lt p hp h0; simp; omega))
            rcases (unhide HS).2.2.2 with ⟨rfl, h0, h1⟩ | ⟨b, off, rfl, h0⟩
            · have HN := hide (new_any (sl_tail1 (k := k) (unhide HS4) h0 h1) (by omega) (byt_dropS (unhide HY) k))
              clear h0 h1
              go_wp2_with fail
              refine (unhide HN).mono ?_
              rintro _ w5 ⟨d0, z1, z3, rfl, hC, hd, hG⟩
              have HO5 := hide ((unhide HO4).fr hG (by simp))
              have HF5 := hide ((unhide HF4).trans (hG.mono (by simp)))
              have HC5 := hide ((unhide HC4).bel hG.nil)
              have HD5 := hide hC
              have hdc : c ≠ d0 := by have := (unhide HC4).1.lt; omega
              have HB5 := hide (cs_bare w5 1 29)
              have HP5 := hide ((unhide HO5).fr (Fr.of (below1 w5 (.cells #[.slice none 0 0, .int .i64 0, .int .i64 1] 29)) []) (by simp))
              have hoz5 : wr.heap.size < w5.heap.size := World.block_lt_of_cell? w5 _ (unhide HO5).1
              obtain ⟨o1, o2⟩ := unhide HP5
              have HN5 := hide (blind_any (K := K) (n := n) (unhide HD5) (unhide HB5) (Fr.refl [d0] w5))
              have hwq := (unhide HF4).size
              have hdw : W.heap.size ≤ d0 := by have := (unhide HQ).size; omega
              have hyp5 : ∀ p, y1 = some p → 0 < len → p.block ≠ d0 := fun p hp h0 => by have := (unhide HC4).2.1.lt p hp h0; omega
              clear hG hC hd hwq
              go_wp2_with fail
              refine (unhide HN5).mono ?_
              rintro _ w6 ⟨t6, rfl, hC, hG⟩
              have HC6 := hide ((unhide HC5).fr hG (by simpa using hdc) (fun p hp h0 => by simpa using hyp5 p hp h0))
              have HF6 := hide (((unhide HF5).mono (l' := [c, d0]) (by simp)).thenL (l' := [d0]) hG (by simp))
              clear o1 o2 hyp5
              obtain ⟨⟨k2, e2⟩, hst⟩ : ∃ t, stp K n (xs.drop k) 0 0 = t := ⟨_, rfl⟩
              rw [hst] at hC HSh
              have HD6 := hide hC
              have hSh := unhide HSh
              injection hSh with hS1 hS2
              have hw2 : IntKind.i64.wrap ((k1 : Int) - (k : Int)) = (k2 : Int) := by rw [i64_id (by omega) (by omega)]; dsimp only at hS1; omega
              have hw3 : (e2 != e1) = false := by dsimp only at hS2; rw [hS2]; exact bne_self_eq_false _
              dsimp only at HD6
              clear hC hG hst hS1 hS2 HSh
              go_wp2_with fail
              refine (err_any (unhide HD6)).mono ?_
              rintro _ wx ⟨rfl, rfl⟩
              go_wp2_with fail
              refine (err_any (unhide HC6)).mono ?_
              rintro _ wx ⟨rfl, rfl⟩
              go_wp2_with fail
              refine (at_any (unhide HD6)).mono ?_
              rintro _ wx ⟨rfl, rfl⟩
              go_wp2_with fail
              refine (at_any (unhide HC6)).mono ?_
              rintro _ wx ⟨rfl, rfl⟩
              go_wp2_with fail
              exact ⟨⟨i + 1, k1, e1, by omega, by go_num, unhide HC6, (unhide HQ).thenL (l := []) (unhide HF6) (by simp; omega)⟩, by simp [intOf]; omega⟩
            · clear h0
              by_cases hck : cap = k
              · have HN := hide (new_any (sl_tail2 (unhide HS4) hck) (by omega) (byt_dropS (unhide HY) k))
                have hcq : (cap = k) = True := eq_true hck
                clear hck
                go_wp2_with fail
                refine (unhide HN).mono ?_
                rintro _ w5 ⟨d0, z1, z3, rfl, hC, hd, hG⟩
                have HO5 := hide ((unhide HO4).fr hG (by simp))
                have HF5 := hide ((unhide HF4).trans (hG.mono (by simp)))
                have HC5 := hide ((unhide HC4).bel hG.nil)
                have HD5 := hide hC
                have hdc : c ≠ d0 := by have := (unhide HC4).1.lt; omega
                have HB5 := hide (cs_bare w5 1 29)
                have HP5 := hide ((unhide HO5).fr (Fr.of (below1 w5 (.cells #[.slice none 0 0, .int .i64 0, .int .i64 1] 29)) []) (by simp))
                have hoz5 : wr.heap.size < w5.heap.size := World.block_lt_of_cell? w5 _ (unhide HO5).1
                obtain ⟨o1, o2⟩ := unhide HP5
                have HN5 := hide (blind_any (K := K) (n := n) (unhide HD5) (unhide HB5) (Fr.refl [d0] w5))
                have hwq := (unhide HF4).size
                have hdw : W.heap.size ≤ d0 := by have := (unhide HQ).size; omega
                have hyp5 : ∀ p, y1 = some p → 0 < len → p.block ≠ d0 := fun p hp h0 => by have := (unhide HC4).2.1.lt p hp h0; omega
                clear hG hC hd hwq
                go_wp2_with fail
                refine (unhide HN5).mono ?_
                rintro _ w6 ⟨t6, rfl, hC, hG⟩
                have HC6 := hide ((unhide HC5).fr hG (by simpa using hdc) (fun p hp h0 => by simpa using hyp5 p hp h0))
                have HF6 := hide (((unhide HF5).mono (l' := [c, d0]) (by simp)).thenL (l' := [d0]) hG (by simp))
                clear o1 o2 hyp5
                obtain ⟨⟨k2, e2⟩, hst⟩ : ∃ t, stp K n (xs.drop k) 0 0 = t := ⟨_, rfl⟩
                rw [hst] at hC HSh
                have HD6 := hide hC
                have hSh := unhide HSh
                injection hSh with hS1 hS2
                have hw2 : IntKind.i64.wrap ((k1 : Int) - (k : Int)) = (k2 : Int) := by rw [i64_id (by omega) (by omega)]; dsimp only at hS1; omega
                have hw3 : (e2 != e1) = false := by dsimp only at hS2; rw [hS2]; exact bne_self_eq_false _
                dsimp only at HD6
                clear hC hG hst hS1 hS2 HSh
                go_wp2_with fail
                refine (err_any (unhide HD6)).mono ?_
                rintro _ wx ⟨rfl, rfl⟩
                go_wp2_with fail
                refine (err_any (unhide HC6)).mono ?_
                rintro _ wx ⟨rfl, rfl⟩
                go_wp2_with fail
                refine (at_any (unhide HD6)).mono ?_
                rintro _ wx ⟨rfl, rfl⟩
                go_wp2_with fail
                refine (at_any (unhide HC6)).mono ?_
                rintro _ wx ⟨rfl, rfl⟩
                go_wp2_with fail
                exact ⟨⟨i + 1, k1, e1, by omega, by go_num, unhide HC6, (unhide HQ).thenL (l := []) (unhide HF6) (by simp; omega)⟩, by simp [intOf]; omega⟩
              · have HN := hide (new_any (sl_tail3 (unhide HS4) hk) (by omega) (byt_dropS (unhide HY) k))
                go_wp2_with fail
                refine (unhide HN).mono ?_
                rintro _ w5 ⟨d0, z1, z3, rfl, hC, hd, hG⟩
                have HO5 := hide ((unhide HO4).fr hG (by simp))
                have HF5 := hide ((unhide HF4).trans (hG.mono (by simp)))
                have HC5 := hide ((unhide HC4).bel hG.nil)
                have HD5 := hide hC
                have hdc : c ≠ d0 := by have := (unhide HC4).1.lt; omega
                have HB5 := hide (cs_bare w5 1 29)
                have HP5 := hide ((unhide HO5).fr (Fr.of (below1 w5 (.cells #[.slice none 0 0, .int .i64 0, .int .i64 1] 29)) []) (by simp))
                have hoz5 : wr.heap.size < w5.heap.size := World.block_lt_of_cell? w5 _ (unhide HO5).1
                obtain ⟨o1, o2⟩ := unhide HP5
                have HN5 := hide (blind_any (K := K) (n := n) (unhide HD5) (unhide HB5) (Fr.refl [d0] w5))
                have hwq := (unhide HF4).size
                have hdw : W.heap.size ≤ d0 := by have := (unhide HQ).size; omega
                have hyp5 : ∀ p, y1 = some p → 0 < len → p.block ≠ d0 := fun p hp h0 => by have := (unhide HC4).2.1.lt p hp h0; omega
                clear hG hC hd hwq
                go_wp2_with fail
                refine (unhide HN5).mono ?_
                rintro _ w6 ⟨t6, rfl, hC, hG⟩
                have HC6 := hide ((unhide HC5).fr hG (by simpa using hdc) (fun p hp h0 => by simpa using hyp5 p hp h0))
                have HF6 := hide (((unhide HF5).mono (l' := [c, d0]) (by simp)).thenL (l' := [d0]) hG (by simp))
                clear o1 o2 hyp5
                obtain ⟨⟨k2, e2⟩, hst⟩ : ∃ t, stp K n (xs.drop k) 0 0 = t := ⟨_, rfl⟩
                rw [hst] at hC HSh
                have HD6 := hide hC
                have hSh := unhide HSh
                injection hSh with hS1 hS2
                have hw2 : IntKind.i64.wrap ((k1 : Int) - (k : Int)) = (k2 : Int) := by rw [i64_id (by omega) (by omega)]; dsimp only at hS1; omega
                have hw3 : (e2 != e1) = false := by dsimp only at hS2; rw [hS2]; exact bne_self_eq_false _
                dsimp only at HD6
                clear hC hG hst hS1 hS2 HSh
                go_wp2_with fail
                refine (err_any (unhide HD6)).mono ?_
                rintro _ wx ⟨rfl, rfl⟩
                go_wp2_with fail
                refine (err_any (unhide HC6)).mono ?_
                rintro _ wx ⟨rfl, rfl⟩
                go_wp2_with fail
                refine (at_any (unhide HD6)).mono ?_
                rintro _ wx ⟨rfl, rfl⟩
                go_wp2_with fail
                refine (at_any (unhide HC6)).mono ?_
                rintro _ wx ⟨rfl, rfl⟩
                go_wp2_with fail
                exact ⟨⟨i + 1, k1, e1, by omega, by go_num, unhide HC6, (unhide HQ).thenL (l := []) (unhide HF6) (by simp; omega)⟩, by simp [intOf]; omega⟩
          · have f1 : (e1 != 0) = true := bne_iff_ne.2 hf
            have g3 : ((k1 : Int) != (k : Int)) = false := by rw [unhide HBk hf]; exact bne_self_eq_false _
            clear hf HBk
            go_wp2_with fail
            refine (at_any (unhide HC3)).mono ?_
            rintro _ wx ⟨rfl, rfl⟩
            go_wp2_with fail
            refine (at_any (unhide HC3)).mono ?_
            rintro _ wx ⟨rfl, rfl⟩
            go_wp2_with fail
            refine (left2_any (unhide HC3)).mono ?_
            rintro _ wy ⟨rfl, hG⟩
            have HC4 := hide ((unhide HC3).bel hG.nil)
            have HO4 := hide ((unhide HO3).fr hG (by simp))
            have HF4 := hide ((unhide HF3).trans (hG.mono (by simp)))
            clear hG
            go_wp2_with fail
            refine (at_any (unhide HC4)).mono ?_
            rintro _ wx ⟨rfl, rfl⟩
            go_wp2_with fail
            refine (err_any (unhide HC4)).mono ?_
            rintro _ wx ⟨rfl, rfl⟩
            go_wp2_with fail
            refine (at_any (unhide HC4)).mono ?_
            rintro _ wx ⟨rfl, rfl⟩
            have HS4 := hide (((unhide HS).fr (unhide HQ) (by simp)).fr (unhide HF4) (fun p hp h0 => by have := (unhide HS).lt p hp h0; simp; omega))
            rcases (unhide HS).2.2.2 with ⟨rfl, h0, h1⟩ | ⟨b, off, rfl, h0⟩
            · have HN := hide (new_any (sl_tail1 (k := k) (unhide HS4) h0 h1) (by omega) (byt_dropS (unhide HY) k))
              clear h0 h1
              go_wp2_with fail
              refine (unhide HN).mono ?_
              rintro _ w5 ⟨d0, z1, z3, rfl, hC, hd, hG⟩
              have HO5 := hide ((unhide HO4).fr hG (by simp))
              have HF5 := hide ((unhide HF4).trans (hG.mono (by simp)))
              have HC5 := hide ((unhide HC4).bel hG.nil)
              have HD5 := hide hC
              have hdc : c ≠ d0 := by have := (unhide HC4).1.lt; omega
              have HB5 := hide (cs_bare w5 1 29)
              have HP5 := hide ((unhide HO5).fr (Fr.of (below1 w5 (.cells #[.slice none 0 0, .int .i64 0, .int .i64 1] 29)) []) (by simp))
              have hoz5 : wr.heap.size < w5.heap.size := World.block_lt_of_cell? w5 _ (unhide HO5).1
              obtain ⟨o1, o2⟩ := unhide HP5
              have HN5 := hide (blind_any (K := K) (n := n) (unhide HD5) (unhide HB5) (Fr.refl [d0] w5))
              have hwq := (unhide HF4).size
              have hdw : W.heap.size ≤ d0 := by have := (unhide HQ).size; omega
              have hyp5 : ∀ p, y1 = some p → 0 < len → p.block ≠ d0 := fun p hp h0 => by have := (unhide HC4).2.1.lt p hp h0; omega
              clear hG hC hd hwq
              go_wp2_with fail
              refine (unhide HN5).mono ?_
              rintro _ w6 ⟨t6, rfl, hC, hG⟩
              have HC6 := hide ((unhide HC5).fr hG (by simpa using hdc) (fun p hp h0 => by simpa using hyp5 p hp h0))
              have HF6 := hide (((unhide HF5).mono (l' := [c, d0]) (by simp)).thenL (l' := [d0]) hG (by simp))
              clear o1 o2 hyp5
              obtain ⟨⟨k2, e2⟩, hst⟩ : ∃ t, stp K n (xs.drop k) 0 0 = t := ⟨_, rfl⟩
              rw [hst] at hC HSh
              have HD6 := hide hC
              have hSh := unhide HSh
              injection hSh with hS1 hS2
              have hw2 : IntKind.i64.wrap ((k1 : Int) - (k : Int)) = (k2 : Int) := by rw [i64_id (by omega) (by omega)]; dsimp only at hS1; omega
              have hw3 : (e2 != e1) = false := by dsimp only at hS2; rw [hS2]; exact bne_self_eq_false _
              dsimp only at HD6
              clear hC hG hst hS1 hS2 HSh
              go_wp2_with fail
              refine (err_any (unhide HD6)).mono ?_
              rintro _ wx ⟨rfl, rfl⟩
              go_wp2_with fail
              refine (err_any (unhide HC6)).mono ?_
              rintro _ wx ⟨rfl, rfl⟩
              go_wp2_with fail
              refine (at_any (unhide HD6)).mono ?_
              rintro _ wx ⟨rfl, rfl⟩
              go_wp2_with fail
              refine (at_any (unhide HC6)).mono ?_
              rintro _ wx ⟨rfl, rfl⟩
              go_wp2_with fail
              exact ⟨⟨i + 1, k1, e1, by omega, by go_num, unhide HC6, (unhide HQ).thenL (l := []) (unhide HF6) (by simp; omega)⟩, by simp [intOf]; omega⟩
            · clear h0
              by_cases hck : cap = k
              · have HN := hide (new_any (sl_tail2 (unhide HS4) hck) (by omega) (byt_dropS (unhide HY) k))
                have hcq : (cap = k) = True := eq_true hck
                clear hck
                go_wp2_with fail
                refine (unhide HN).mono ?_
                rintro _ w5 ⟨d0, z1, z3, rfl, hC, hd, hG⟩
                have HO5 := hide ((unhide HO4).fr hG (by simp))
                have HF5 := hide ((unhide HF4).trans (hG.mono (by simp)))
                have HC5 := hide ((unhide HC4).bel hG.nil)
                have HD5 := hide hC
                have hdc : c ≠ d0 := by have := (unhide HC4).1.lt; omega
                have HB5 := hide (cs_bare w5 1 29)
                have HP5 := hide ((unhide HO5).fr (Fr.of (below1 w5 (.cells #[.slice none 0 0, .int .i64 0, .int .i64 1] 29)) []) (by simp))
                have hoz5 : wr.heap.size < w5.heap.size := World.block_lt_of_cell? w5 _ (unhide HO5).1
                obtain ⟨o1, o2⟩ := unhide HP5
                have HN5 := hide (blind_any (K := K) (n := n) (unhide HD5) (unhide HB5) (Fr.refl [d0] w5))
                have hwq := (unhide HF4).size
                have hdw : W.heap.size ≤ d0 := by have := (unhide HQ).size; omega
                have hyp5 : ∀ p, y1 = some p → 0 < len → p.block ≠ d0 := fun p hp h0 => by have := (unhide HC4).2.1.lt p hp h0; omega
                clear hG hC hd hwq
                go_wp2_with fail
                refine (unhide HN5).mono ?_
                rintro _ w6 ⟨t6, rfl, hC, hG⟩
                have HC6 := hide ((unhide HC5).fr hG (by simpa using hdc) (fun p hp h0 => by simpa using hyp5 p hp h0))
                have HF6 := hide (((unhide HF5).mono (l' := [c, d0]) (by simp)).thenL (l' := [d0]) hG (by simp))
                clear o1 o2 hyp5
                obtain ⟨⟨k2, e2⟩, hst⟩ : ∃ t, stp K n (xs.drop k) 0 0 = t := ⟨_, rfl⟩
                rw [hst] at hC HSh
                have HD6 := hide hC
                have hSh := unhide HSh
                injection hSh with hS1 hS2
                have hw2 : IntKind.i64.wrap ((k1 : Int) - (k : Int)) = (k2 : Int) := by rw [i64_id (by omega) (by omega)]; dsimp only at hS1; omega
                have hw3 : (e2 != e1) = false := by dsimp only at hS2; rw [hS2]; exact bne_self_eq_false _
                dsimp only at HD6
                clear hC hG hst hS1 hS2 HSh
                go_wp2_with fail
                refine (err_any (unhide HD6)).mono ?_
                rintro _ wx ⟨rfl, rfl⟩
                go_wp2_with fail
                refine (err_any (unhide HC6)).mono ?_
                rintro _ wx ⟨rfl, rfl⟩
                go_wp2_with fail
                refine (at_any (unhide HD6)).mono ?_
                rintro _ wx ⟨rfl, rfl⟩
                go_wp2_with fail
                refine (at_any (unhide HC6)).mono ?_
                rintro _ wx ⟨rfl, rfl⟩
                go_wp2_with fail
                exact ⟨⟨i + 1, k1, e1, by omega, by go_num, unhide HC6, (unhide HQ).thenL (l := []) (unhide HF6) (by simp; omega)⟩, by simp [intOf]; omega⟩
              · have HN := hide (new_any (sl_tail3 (unhide HS4) hk) (by omega) (byt_dropS (unhide HY) k))
                go_wp2_with fail
                refine (unhide HN).mono ?_
                rintro _ w5 ⟨d0, z1, z3, rfl, hC, hd, hG⟩
                have HO5 := hide ((unhide HO4).fr hG (by simp))
                have HF5 := hide ((unhide HF4).trans (hG.mono (by simp)))
                have HC5 := hide ((unhide HC4).bel hG.nil)
                have HD5 := hide hC
                have hdc : c ≠ d0 := by have := (unhide HC4).1.lt; omega
                have HB5 := hide (cs_bare w5 1 29)
                have HP5 := hide ((unhide HO5).fr (Fr.of (below1 w5 (.cells #[.slice none 0 0, .int .i64 0, .int .i64 1] 29)) []) (by simp))
                have hoz5 : wr.heap.size < w5.heap.size := World.block_lt_of_cell? w5 _ (unhide HO5).1
                obtain ⟨o1, o2⟩ := unhide HP5
                have HN5 := hide (blind_any (K := K) (n := n) (unhide HD5) (unhide HB5) (Fr.refl [d0] w5))
                have hwq := (unhide HF4).size
                have hdw : W.heap.size ≤ d0 := by have := (unhide HQ).size; omega
                have hyp5 : ∀ p, y1 = some p → 0 < len → p.block ≠ d0 := fun p hp h0 => by have := (unhide HC4).2.1.lt p hp h0; omega
                clear hG hC hd hwq
                go_wp2_with fail
                refine (unhide HN5).mono ?_
                rintro _ w6 ⟨t6, rfl, hC, hG⟩
                have HC6 := hide ((unhide HC5).fr hG (by simpa using hdc) (fun p hp h0 => by simpa using hyp5 p hp h0))
                have HF6 := hide (((unhide HF5).mono (l' := [c, d0]) (by simp)).thenL (l' := [d0]) hG (by simp))
                clear o1 o2 hyp5
                obtain ⟨⟨k2, e2⟩, hst⟩ : ∃ t, stp K n (xs.drop k) 0 0 = t := ⟨_, rfl⟩
                rw [hst] at hC HSh
                have HD6 := hide hC
                have hSh := unhide HSh
                injection hSh with hS1 hS2
                have hw2 : IntKind.i64.wrap ((k1 : Int) - (k : Int)) = (k2 : Int) := by rw [i64_id (by omega) (by omega)]; dsimp only at hS1; omega
                have hw3 : (e2 != e1) = false := by dsimp only at hS2; rw [hS2]; exact bne_self_eq_false _
                dsimp only at HD6
                clear hC hG hst hS1 hS2 HSh
                go_wp2_with fail
                refine (err_any (unhide HD6)).mono ?_
                rintro _ wx ⟨rfl, rfl⟩
                go_wp2_with fail
                refine (err_any (unhide HC6)).mono ?_
                rintro _ wx ⟨rfl, rfl⟩
                go_wp2_with fail
                refine (at_any (unhide HD6)).mono ?_
                rintro _ wx ⟨rfl, rfl⟩
                go_wp2_with fail
                refine (at_any (unhide HC6)).mono ?_
                rintro _ wx ⟨rfl, rfl⟩
                go_wp2_with fail
                exact ⟨⟨i + 1, k1, e1, by omega, by go_num, unhide HC6, (unhide HQ).thenL (l := []) (unhide HF6) (by simp; omega)⟩, by simp [intOf]; omega⟩
        · have d : (e != 0) = true := bne_iff_ne.2 he
          have d2 : (e == 0) = false := beq_eq_false_iff_ne.2 he
          have hD := unhide HD he
          injection hD with hD1 hD2
          subst hD1 hD2
          clear HD HBk HSh
          go_wp2_with fail
          refine (at_any (unhide HC3)).mono ?_
          rintro _ wx ⟨rfl, rfl⟩
          go_wp2_with fail
          refine (at_any (unhide HC3)).mono ?_
          rintro _ wx ⟨rfl, rfl⟩
          go_wp2_with fail
          refine (left2_any (unhide HC3)).mono ?_
          rintro _ wy ⟨rfl, hG⟩
          have HC4 := hide ((unhide HC3).bel hG.nil)
          have HO4 := hide ((unhide HO3).fr hG (by simp))
          have HF4 := hide ((unhide HF3).trans (hG.mono (by simp)))
          clear hG
          go_wp2_with fail
          refine (at_any (unhide HC4)).mono ?_
          rintro _ wx ⟨rfl, rfl⟩
          go_wp2_with fail
          refine (err_any (unhide HC4)).mono ?_
          rintro _ wx ⟨rfl, rfl⟩
          go_wp2_with fail
          refine (at_any (unhide HC4)).mono ?_
          rintro _ wx ⟨rfl, rfl⟩
          go_wp2_with fail
          exact ⟨⟨i + 1, k1, e1, by omega, by go_num, unhide HC4, (unhide HQ).thenL (l := []) (unhide HF4) (by simp; omega)⟩, by simp [intOf]; omega⟩
    · have hi' : ¬ (i : Int) < (on : Int) := by omega
      go_wp2_with fail
      go_ret
      exact ⟨rfl, (unhide HZ).nil⟩
end Go.Proofs.Ytphgljhlamjmgaa
