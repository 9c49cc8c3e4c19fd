/- ScB. -/
import Derived.Test.YtjoonmpjcophnaaGreatDoorUa07
import Derived.BigQuiet
import Derived.Handy
namespace Go.Proofs.YtjoonmpjcophnaaGreatDoor
open Go.RowKit

set_option maxHeartbeats 400000 in
set_option maxRecDepth 100000 in
theorem failed_any {c : Nat} {a : Option Addr} {len cap k : Nat} {e : Int} {W : World} (h : Cu c a len cap k e W) :
    Calls Tryz.prog 88 #[.pointer (some ⟨c, 2, none⟩)] W fun r W' => r = .returned (.bool (e != 0)) ∧ W' = W := by
  have h2 := h.2.2.1
  clear h
  go_enter Tryz.func88, Tryz.ntmps88
  go_wp2_with fail
  go_ret
  exact ⟨rfl, rfl⟩
set_option maxHeartbeats 400000 in
set_option maxRecDepth 100000 in
theorem fail_any {c : Nat} {a : Option Addr} {len cap k : Nat} {xs : List Int} {e x : Int} {W : World} (h : Cs c a len cap xs k e W) :
    Calls Tryz.prog 51 #[.pointer (some ⟨c, 2, none⟩), .int .i64 x] W fun r W' => r = .returned (.tuple #[]) ∧ Cs c a len cap xs k (if e = 0 then x else e) W' ∧ Fr [c] W W' := by
  have HF := hide (failed_any (W := W) h.1)
  have h2 := h.1.2.2.1
  have h3 := h.1.2.2.2 2 (by decide)
  have H := hide h
  clear h
  by_cases he : e = 0
  · subst he
    go_enter Tryz.func51, Tryz.ntmps51
    go_wp2_with fail
    refine (unhide HF).mono ?_
    rintro _ w1 ⟨rfl, rfl⟩
    go_wp2_with fail
    exact bodyPost_end (results_none rfl _ _ _) rfl ⟨rfl, (unhide H).err x, (Fr.refl _ _).place _ _⟩
  · have d : (e != 0) = true := bne_iff_ne.2 he
    rw [d] at HF
    go_enter Tryz.func51, Tryz.ntmps51
    go_wp2_with fail
    refine (unhide HF).mono ?_
    rintro _ w1 ⟨rfl, rfl⟩
    go_wp2_with fail
    exact bodyPost_end (results_none rfl _ _ _) rfl ⟨rfl, unhide H, Fr.refl _ _⟩
theorem Cs.at' {c : Nat} {a : Option Addr} {len cap k : Nat} {xs : List Int} {e : Int} {w : World} (h : Cs c a len cap xs k e w) (k' : Nat) (hk : k' ≤ len) (z : Int) (hz : z = (k' : Int)) : Cs c a len cap xs k' e (w.setCell ⟨c, 1, none⟩ (.int .i64 z)) := by
  subst hz; exact h.place k' hk
theorem Fr.drewN {l : List Nat} {a w : World} (h : Fr l a w) (n : Nat) : Fr l a (w.drewN n) := h.bel (below_drewN (Below.refl _ _) n)
set_option maxHeartbeats 400000 in
set_option maxRecDepth 100000 in
theorem left_any {c : Nat} {a : Option Addr} {len cap k : Nat} {e : Int} {W : World} (h : Cu c a len cap k e W) (hk : k ≤ len) (hl : len ≤ 7000) :
    Calls Tryz.prog 74 #[.pointer (some ⟨c, 0, none⟩)] W fun r W' => r = .returned (.int .i64 ((len : Int) - k)) ∧ Fr [] W W' := by
  have h0 := h.1
  have h1 := h.2.1
  clear h
  go_enter Tryz.func74, Tryz.ntmps74
  go_wp2_with fail
  go_quiet (fail)
  go_wp2_with fail
  go_ret
  exact ⟨rfl, (Fr.refl _ _).drewN _⟩
set_option maxHeartbeats 400000 in
set_option maxRecDepth 100000 in
theorem next_in {c : Nat} {b off : Nat} {len cap k n : Nat} {xs : List Int} {e : Int} {W : World} (h : Cs c (some ⟨b, off, none⟩) len cap xs k e W) (hn : n ≤ len - k) (hcn : ¬ cap = k) :
    Calls Tryz.prog 134 #[.pointer (some ⟨c, 0, none⟩), .int .u32 (n : Int)] W fun r W' => r = .returned (.tuple #[.slice (some ⟨b, off + k, none⟩) n (cap - k), .bool true]) ∧ Cs c (some ⟨b, off, none⟩) len cap xs (k + n) e W' ∧ Fr [c] W W' := by
  have HL := hide (left_any (W := W) h.1 h.2.2.2.2.1 h.2.2.2.2.2)
  have hk := h.2.2.2.2.1
  have hc := h.2.1.2.1
  have hl := h.2.2.2.2.2
  have H := hide h
  clear h
  go_enter Tryz.func134, Tryz.ntmps134
  go_wp2_with fail
  refine (unhide HL).mono ?_
  rintro _ w1 ⟨rfl, hf⟩
  have H := hide ((unhide H).fr hf (by simp) (by simp))
  have HF := hide (hf.mono (l' := [c]) (by simp))
  obtain ⟨h0, h1, h2, hz⟩ := (unhide H).1
  have f1 := hz 1 (by decide)
  clear hf hz h2
  have hn' : ¬ (len : Int) - k < n := by omega
  go_wp2_with fail
  have H := hide ((unhide H).at' (k + n) (by omega) ((k : Int) + n) (by omega))
  have HF := hide ((unhide HF).place 1 (.int .i64 ((k : Int) + n)))
  obtain ⟨h0, h1, h2, hz⟩ := (unhide H).1
  clear hz h2
  generalize World.setCell w1 _ _ = w2 at *
  go_quiet (fail)
  go_wp2_with fail
  exact bodyPost_ret (v := .tuple #[.slice (some ⟨b, off + k, none⟩) n (cap - k), .bool true]) (by simp [results, Tryz.results134, go_sem]) rfl ⟨rfl, (unhide H).bel (below_drewN (Below.refl _ _) _), (unhide HF).drewN _⟩
set_option maxHeartbeats 400000 in
set_option maxRecDepth 100000 in
theorem next_end {c : Nat} {b off : Nat} {len cap k : Nat} {xs : List Int} {e : Int} {W : World} (h : Cs c (some ⟨b, off, none⟩) len cap xs k e W) (hcn : cap = k) :
    Calls Tryz.prog 134 #[.pointer (some ⟨c, 0, none⟩), .int .u32 0] W fun r W' => r = .returned (.tuple #[.slice (some ⟨b, off, none⟩) 0 0, .bool true]) ∧ Cs c (some ⟨b, off, none⟩) len cap xs k e W' ∧ Fr [c] W W' := by
  have HL := hide (left_any (W := W) h.1 h.2.2.2.2.1 h.2.2.2.2.2)
  have hk := h.2.2.2.2.1
  have hc := h.2.1.2.1
  have hl := h.2.2.2.2.2
  have H := hide h
  clear h
  obtain rfl : len = cap := by omega
  subst hcn
  go_enter Tryz.func134, Tryz.ntmps134
  go_wp2_with fail
  refine (unhide HL).mono ?_
  rintro _ w1 ⟨rfl, hf⟩
  have H := hide ((unhide H).fr hf (by simp) (by simp))
  have HF := hide (hf.mono (l' := [c]) (by simp))
  obtain ⟨h0, h1, h2, hz⟩ := (unhide H).1
  have f1 := hz 1 (by decide)
  clear hf hz h2
  have hn' : ¬ (len : Int) - len < 0 := by omega
  go_wp2_with fail
  have H := hide ((unhide H).at' len (by omega) (len : Int) rfl)
  have HF := hide ((unhide HF).place 1 (.int .i64 (len : Int)))
  obtain ⟨h0, h1, h2, hz⟩ := (unhide H).1
  clear hz h2
  generalize World.setCell w1 _ _ = w2 at *
  go_quiet (fail)
  go_wp2_with fail
  exact bodyPost_ret (v := .tuple #[.slice (some ⟨b, off, none⟩) 0 0, .bool true]) (by simp [results, Tryz.results134, go_sem]) rfl ⟨rfl, (unhide H).bel (below_drewN (Below.refl _ _) _), (unhide HF).drewN _⟩
set_option maxHeartbeats 400000 in
set_option maxRecDepth 100000 in
theorem next_nil {c : Nat}   {xs : List Int} {e : Int} {W : World} (h : Cs c none 0 0 xs 0 e W)  :
    Calls Tryz.prog 134 #[.pointer (some ⟨c, 0, none⟩), .int .u32 0] W fun r W' => r = .returned (.tuple #[.slice none 0 0, .bool true]) ∧ Cs c none 0 0 xs 0 e W' ∧ Fr [c] W W' := by
  have HL := hide (left_any (W := W) h.1 h.2.2.2.2.1 h.2.2.2.2.2)
  have hk := h.2.2.2.2.1
  have hc := h.2.1.2.1
  have hl := h.2.2.2.2.2
  have H := hide h
  clear h
  go_enter Tryz.func134, Tryz.ntmps134
  go_wp2_with fail
  refine (unhide HL).mono ?_
  rintro _ w1 ⟨rfl, hf⟩
  have H := hide ((unhide H).fr hf (by simp) (by simp))
  have HF := hide (hf.mono (l' := [c]) (by simp))
  obtain ⟨h0, h1, h2, hz⟩ := (unhide H).1
  have f1 := hz 1 (by decide)
  clear hf hz h2
  have hn' : ¬ ((0 : Nat) : Int) - ((0 : Nat) : Int) < 0 := by omega
  go_wp2_with fail
  have H := hide ((unhide H).at' 0 (by omega) 0 rfl)
  have HF := hide ((unhide HF).place 1 (.int .i64 0))
  obtain ⟨h0, h1, h2, hz⟩ := (unhide H).1
  clear hz h2
  generalize World.setCell w1 _ _ = w2 at *
  go_quiet (fail)
  go_wp2_with fail
  exact bodyPost_ret (v := .tuple #[.slice none 0 0, .bool true]) (by simp [results, Tryz.results134, go_sem]) rfl ⟨rfl, (unhide H).bel (below_drewN (Below.refl _ _) _), (unhide HF).drewN _⟩
set_option maxHeartbeats 400000 in
set_option maxRecDepth 100000 in
theorem next_no {c : Nat} {a : Option Addr} {len cap k n : Nat} {xs : List Int} {e : Int} {W : World} (h : Cs c a len cap xs k e W) (hn : ¬ n ≤ len - k) (hb : n < 4294967296) :
    Calls Tryz.prog 134 #[.pointer (some ⟨c, 0, none⟩), .int .u32 (n : Int)] W fun r W' => r = .returned (.tuple #[.slice none 0 0, .bool false]) ∧ Cs c a len cap xs k e W' ∧ Fr [c] W W' := by
  have HL := hide (left_any (W := W) h.1 h.2.2.2.2.1 h.2.2.2.2.2)
  have hk := h.2.2.2.2.1
  have H := hide h
  clear h
  go_enter Tryz.func134, Tryz.ntmps134
  go_wp2_with fail
  refine (unhide HL).mono ?_
  rintro _ w1 ⟨rfl, hf⟩
  have H := hide ((unhide H).fr hf (by simp) (by simp))
  have HF := hide (hf.mono (l' := [c]) (by simp))
  clear hf
  have hn' : (len : Int) - k < n := by omega
  go_wp2_with fail
  exact bodyPost_ret (v := .tuple #[.slice none 0 0, .bool false]) (by simp [results, Tryz.results134, go_sem]) rfl ⟨rfl, unhide H, unhide HF⟩
end Go.Proofs.YtjoonmpjcophnaaGreatDoor
