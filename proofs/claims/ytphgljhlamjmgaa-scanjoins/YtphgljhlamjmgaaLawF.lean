/- The law ScanReads. -/
import Derived.Test.YtphgljhlamjmgaaLawE
namespace Go.Proofs.Ytphgljhlamjmgaa
open Go.RowKit

/-- A row of things that are asked for. -/
def Ro (w : World) (a : Option Addr) (len cap : Nat) (os : List (Int × Int)) : Prop :=
  os.length = len ∧ len ≤ cap ∧ (a = none ∧ len = 0 ∧ cap = 0 ∨ ∃ b off, a = some ⟨b, off, none⟩ ∧ ∀ j, j < len → w.cell? ⟨b, off + j * 2, none⟩ = some (.int .i64 (os.getD j (0, 0)).1) ∧ w.cell? ⟨b, off + j * 2 + 1, none⟩ = some (.int .i64 (os.getD j (0, 0)).2))
theorem Ro.fr {w w' : World} {a : Option Addr} {len cap : Nat} {os : List (Int × Int)} (h : Ro w a len cap os) (hf : Fr [] w w') : Ro w' a len cap os := by
  refine ⟨h.1, h.2.1, ?_⟩
  rcases h.2.2 with h | ⟨b, off, h1, h2⟩
  · exact Or.inl h
  · exact Or.inr ⟨b, off, h1, fun j hj => ⟨hf.keep (h2 j hj).1 (by simp), hf.keep (h2 j hj).2 (by simp)⟩⟩
theorem Ro.at {w : World} {a : Option Addr} {len cap : Nat} {os : List (Int × Int)} (h : Ro w a len cap os) {j : Nat} (hj : j < len) : ∃ b off K n, a = some ⟨b, off, none⟩ ∧ w.cell? ⟨b, off + j * 2, none⟩ = some (.int .i64 K) ∧ w.cell? ⟨b, off + j * 2 + 1, none⟩ = some (.int .i64 n) := by
  rcases h.2.2 with ⟨_, h, _⟩ | ⟨b, off, h1, h2⟩
  · omega
  · exact ⟨b, off, _, _, h1, (h2 j hj).1, (h2 j hj).2⟩
/-- The reader of a row of bytes. -/
theorem cs_reader {w : World} {a : Option Addr} {len cap : Nat} {xs : List Int} (h : Sl w a len cap xs) (hy : Byt xs) (hl : len ≤ 6000) (t : TypeId) : Cs w.heap.size a len cap xs 0 0 (w.alloc (.cells #[.slice a len cap, .int .i64 0, .int .i64 0] t)) := by
  refine ⟨⟨by simp [go_sem], by simp [go_sem], by simp [go_sem], fun o ho => ?_⟩, h.below (below1 _ _), fun p hp h0 => ?_, hy, Nat.zero_le _, hl⟩
  · exact ((room_cells (cs := [.slice a len cap, .int .i64 0, .int .i64 0]) (t := t) w 3 (by simp)) o ho).2
  · have := h.lt p hp h0
    omega
set_option maxHeartbeats 1000000 in
set_option maxRecDepth 100000 in
theorem reads_long {a : Option Addr} {len cap : Nat} {oa : Option Addr} {on oc : Nat} {W : World} (h : 6000 < len ∨ ¬ 6000 < len ∧ 60 < on) :
    Calls Try.prog 3 #[.slice a len cap, .slice oa on oc] W fun r W' => r = .returned (.bool true) ∧ Below W.heap.size W W' := by
  have HA := awake_any
  go_enter Try.func3, Try.ntmps3
  go_wp2_with fail
  refine (unhide HA _).mono ?_
  rintro _ w1 ⟨rfl, hb⟩
  have HB := hide hb
  clear hb
  rcases h with h | ⟨h1, h2⟩
  · have h' : (6000 : Int) < len := by omega
    go_wp2_with fail
    go_ret
    exact ⟨rfl, unhide HB⟩
  · have h' : ¬ (6000 : Int) < len := by omega
    have h3 : (60 : Int) < on := by omega
    go_wp2_with fail
    go_ret
    exact ⟨rfl, unhide HB⟩
set_option maxHeartbeats 1000000 in
set_option maxRecDepth 100000 in
theorem reads_any {a : Option Addr} {len cap : Nat} {xs : List Int} {oa : Option Addr} {on oc : Nat} {os : List (Int × Int)} {W : World} (hS : Sl W a len cap xs) (hy : Byt xs) (hl : len ≤ 6000) (hO : Ro W oa on oc os) (ho : on ≤ 60) :
    Calls Try.prog 3 #[.slice a len cap, .slice oa on oc] W fun r W' => r = .returned (.bool true) ∧ Below W.heap.size W W' := by
  have HA := awake_any
  have HS := hide hS
  have HY := hide hy
  have HRo := hide hO
  have h' : ¬ (6000 : Int) < len := by omega
  have h3 : ¬ (60 : Int) < on := by omega
  have hoc := hO.2.1
  clear hS hy hO
  go_enter Try.func3, Try.ntmps3
  go_wp2_with fail
  refine (unhide HA _).mono ?_
  rintro _ w1 ⟨rfl, hb⟩
  have HS := hide ((unhide HS).below hb)
  have HF := hide (Fr.of hb [])
  have HN := hide (new_any (unhide HS) hl (unhide HY))
  clear hb
  go_wp2_with fail
  refine (unhide HN).mono ?_
  rintro _ w2 ⟨c, y1, y3, rfl, hC, hc, hF⟩
  have HC := hide (hC.alloc (.cells #[.slice a len cap, .int .i64 0, .int .i64 0] 29))
  have HR := hide (cs_reader ((unhide HS).fr hF (by simp)) (unhide HY) hl 29)
  have hz1 := (unhide HF).size
  have hz2 := hF.size
  have HT : Hid (Tw c y1 len y3 xs 0 0 w2.heap.size a len cap xs 0 0 (w2.alloc (.cells #[.slice a len cap, .int .i64 0, .int .i64 0] 29))) := hide ⟨unhide HC, unhide HR, by have := hC.1.lt; omega, fun p hp h0 => by have := hC.2.1.lt p hp h0; omega, fun p hp h0 => by have := (unhide HS).lt p hp h0; omega⟩
  have hr : W.heap.size ≤ w2.heap.size := by omega
  have hc' : W.heap.size ≤ c := by omega
  have HF := hide (((unhide HF).trans hF).alloc (.cells #[.slice a len cap, .int .i64 0, .int .i64 0] 29))
  clear hC hc hF hz1 hz2 HN HC HR
  go_wp2_with fail
  generalize w2.alloc (.cells #[.slice a len cap, .int .i64 0, .int .i64 0] 29) = wa at *
  obtain ⟨r, hrr⟩ : ∃ r, w2.heap.size = r := ⟨_, rfl⟩
  rw [hrr] at HT hr ⊢
  clear hrr
  go_loopw [26] (fun v26 wr => ∃ (i k : Nat) (e : Int), i ≤ on ∧ v26 = .int .i64 (i : Int) ∧ Tw c y1 len y3 xs k e r a len cap xs k e wr ∧ Fr [] W wr) (fun v26 _ => on - (intOf v26).toNat)
  case atStart => exact ⟨0, 0, 0, by omega, rfl, unhide HT, unhide HF⟩
  case round =>
    obtain ⟨i, k, e, hi, rfl, hT, hF⟩ := hrel
    have HF := hide hF
    have HT := hide hT
    clear hF hT
    by_cases hlt : i < on
    · have hi' : (i : Int) < (on : Int) := by omega
      obtain ⟨ob, oo, K, n, rfl, hK, hn⟩ := ((unhide HRo).fr (unhide HF)).at hlt
      have HR : Hid (∃ (k1 : Nat) (e1 : Int), k1 ≤ len ∧ ∀ w, Tw c y1 len y3 xs k e r a len cap xs k e w → Calls Try.prog 9 #[.pointer (some ⟨c, 0, none⟩), .pointer (some ⟨r, 0, none⟩), .agg #[.int .i64 K, .int .i64 n]] w fun R w' => R = .returned (.bool true) ∧ Tw c y1 len y3 xs k1 e1 r a len cap xs k1 e1 w' ∧ Fr [c, r] w w') := hide ⟨(stp K n xs k e).1, (stp K n xs k e).2, by have h1 := (unhide HT).1.2.1.1; have h2 := (unhide HT).1.2.2.2.2.1; have := stp_15 (K := K) (n := n) (xs := xs) (k := k) (e := e) (by omega); omega, fun w hT => by
        refine (read_any (K := K) (n := n) hT).mono ?_
        rintro _ w' ⟨⟨t, rfl, ht⟩, hT', hF'⟩
        exact ⟨by rw [ht ⟨rfl, rfl, rfl⟩], hT', hF'⟩⟩
      obtain ⟨k1, e1, hkl, hR⟩ := unhide HR
      have HR := hide hR
      clear hR
      have hw : IntKind.i64.wrap ((len : Int) - k1) = (len : Int) - k1 := i64_id (by omega) (by omega)
      have HO : Hid (At2 wr.heap.size (.int .i64 K) (.int .i64 n) ((wr.alloc (.cells #[.int .i64 K, .int .i64 n] 31)).drew)) := hide (by unfold At2; simp [go_sem])
      have HN : Hid (¬ wr.heap.size = c ∧ ¬ wr.heap.size = r) := hide (by have h1 := (unhide HT).1.1.lt; have h2 := (unhide HT).2.1.1.lt; omega)
      have HT := hide ((unhide HT).bel ((below1 wr (.cells #[.int .i64 K, .int .i64 n] 31)).drew))
      have HQ := hide (((unhide HF).alloc (.cells #[.int .i64 K, .int .i64 n] 31)).drew)
      go_wp2_with fail
      clear hK hn
      refine wp_region_held_drew (S := fun w' => (w'.cell? ⟨wr.heap.size, 0, none⟩ = some (.int .i64 K) ∧ w'.cell? ⟨wr.heap.size, 1, none⟩ = some (.int .i64 n))) (by kernel_rfl) ?_ (fun hHeld => ?_)
      · (try dsimp only)
        exact unhide HO
      refine lst0 35 (by kernel_rfl) ?_
      refine tkA 0 30 1 ?_
      refine tkA 1 31 3 ?_
      refine tkA 2 32 7 ?_
      refine rdA 3 15 (fun Kk hKk => ?_)
      go_simp
      refine (unhide HR _ (unhide HT)).mono ?_
      rintro _ w3 ⟨rfl, hT, hF⟩
      have HO := hide ((unhide HO).fr hF (by simpa using unhide HN))
      have HF := hide hF
      have HT := hide hT
      clear hT hF
      (try go_wp2_with fail)
      refine hKk.out _ _ ?_ (fun _ => ?_)
      · (try dsimp only)
        exact unhide HO
      clear hKk Kk hHeld
      (try simp only [List.setIfInBounds_toArray, List.set_cons_zero, List.set_cons_succ])
      refine wpAnyH_more (S' := fun w => (w.cell? ⟨wr.heap.size, 0, none⟩ = some (.int .i64 K) ∧ w.cell? ⟨wr.heap.size, 1, none⟩ = some (.int .i64 n)) ∧ w.cell? ⟨r, 1, none⟩ = some (.int .i64 (k1 : Int)) ∧ w.cell? ⟨r, 2, none⟩ = some (.int .i64 e1)) (fun _ h => h.1) _ _ _ _ ?_
      have hHeld : (w3.cell? ⟨wr.heap.size, 0, none⟩ = some (.int .i64 K) ∧ w3.cell? ⟨wr.heap.size, 1, none⟩ = some (.int .i64 n)) ∧ w3.cell? ⟨r, 1, none⟩ = some (.int .i64 (k1 : Int)) ∧ w3.cell? ⟨r, 2, none⟩ = some (.int .i64 e1) := ⟨unhide HO, (unhide HT).2.1.1.2.1, (unhide HT).2.1.1.2.2.1⟩
      refine tkA 4 34 31 ?_
      refine tkA 5 35 63 ?_
      refine tkA 6 36 127 ?_
      refine tkA 8 38 383 ?_
      refine tkA 9 39 895 ?_
      refine tkA 10 40 1919 ?_
      refine tkA 11 41 3967 ?_
      refine rdA 7 4095 (fun Kk hKk => ?_)
      go_simp
      refine (at_any (unhide HT).1).mono ?_
      rintro _ w4 ⟨rfl, rfl⟩
      (try go_wp2_with fail)
      refine hKk.out _ _ ?_ (fun _ => ?_)
      · (try dsimp only)
        exact hHeld
      clear hKk Kk
      (try simp only [List.setIfInBounds_toArray, List.set_cons_zero, List.set_cons_succ])
      refine tkA 12 42 8191 ?_
      refine tkA 13 43 16383 ?_
      refine tkA 14 44 32767 ?_
      refine tkA 15 45 65535 ?_
      refine tkA 17 47 196607 ?_
      refine tkA 18 48 458751 ?_
      refine tkA 19 49 983039 ?_
      refine tkA 20 50 2031615 ?_
      refine tkA 21 51 4128767 ?_
      refine tkA 22 52 8323071 ?_
      refine tkA 23 53 16711679 ?_
      refine rdA 16 16777215 (fun Kk hKk => ?_)
      go_simp
      refine (left2_any (unhide HT).1).mono ?_
      rintro _ w5 ⟨rfl, hF⟩
      have HO := hide ((unhide HO).fr hF (by simp))
      have HT := hide ((unhide HT).bel hF.nil)
      have HF := hide ((unhide HF).bel hF.nil)
      clear hF
      (try go_wp2_with fail)
      refine hKk.out _ _ ?_ (fun _ => ?_)
      · (try dsimp only)
        exact ⟨unhide HO, (unhide HT).2.1.1.2.1, (unhide HT).2.1.1.2.2.1⟩
      clear hKk Kk hHeld
      (try simp only [List.setIfInBounds_toArray, List.set_cons_zero, List.set_cons_succ])
      have hHeld : (w5.cell? ⟨wr.heap.size, 0, none⟩ = some (.int .i64 K) ∧ w5.cell? ⟨wr.heap.size, 1, none⟩ = some (.int .i64 n)) ∧ w5.cell? ⟨r, 1, none⟩ = some (.int .i64 (k1 : Int)) ∧ w5.cell? ⟨r, 2, none⟩ = some (.int .i64 e1) := ⟨unhide HO, (unhide HT).2.1.1.2.1, (unhide HT).2.1.1.2.2.1⟩
      refine tkA 24 54 33554431 ?_
      refine tkA 25 55 67108863 ?_
      refine tkA 26 56 134217727 ?_
      refine tkA 27 57 268435455 ?_
      refine tkA 29 59 805306367 ?_
      refine tkA 30 60 1879048191 ?_
      refine tkA 31 61 4026531839 ?_
      refine tkA 32 62 8321499135 ?_
      refine rdA 28 8589934591 (fun Kk hKk => ?_)
      go_simp
      refine (err_any (unhide HT).1).mono ?_
      rintro _ w6 ⟨rfl, rfl⟩
      (try go_wp2_with fail)
      refine hKk.out _ _ ?_ (fun _ => ?_)
      · (try dsimp only)
        exact hHeld
      clear hKk Kk
      (try simp only [List.setIfInBounds_toArray, List.set_cons_zero, List.set_cons_succ])
      refine tkA 33 63 17179869183 ?_
      refine tkA 34 64 34359738367 ?_
      refine wpAnyH_done (by kernel_rfl) ?_ _
      clear hHeld
      go_wp2_with fail
      exact ⟨⟨i + 1, k1, e1, by omega, by go_num, unhide HT, (unhide HQ).thenL (l := []) (unhide HF) (by simp; omega)⟩, by simp [intOf]; omega⟩
    · have hi' : ¬ (i : Int) < (on : Int) := by omega
      go_wp2_with fail
      go_ret
      exact ⟨rfl, (unhide HF).nil⟩
end Go.Proofs.Ytphgljhlamjmgaa
