/- RfA. -/
import Derived.Test.YtalahdkgigcpfaaDoorG22
import Derived.Test.YtalahdkgigcpfaaDoorG25
import Derived.Test.YtalahdkgigcpfaaDoorG30
namespace Go.Proofs.YtalahdkgigcpfaaDoor
open Go.RowKit

set_option maxHeartbeats 1000000 in
set_option maxRecDepth 100000 in
theorem rBack_any {c : Nat} {a : Option Addr} {len cap k : Nat} {xs : List Int} {e : Int} {k0 : Nat} {W : World} (h : Cs c a len cap xs k e W) (hk : k0 ≤ len) :
    Calls Tryd.prog 79 #[.pointer (some ⟨c, 0, none⟩), .int .i64 (k0 : Int)] W fun r W' => r = .returned (.tuple #[]) ∧ Cs c a len cap xs (back e k k0) e W' ∧ Fr [c] W W' := by
  have h2 := h.1.2.2.1
  have h1 := h.1.2.1
  have h3 := h.1.2.2.2 1 (by decide)
  have H := hide h
  clear h
  by_cases he : e = 0
  · subst he
    go_enter Tryd.func79, Tryd.ntmps79
    go_wp2_with fail
    exact bodyPost_end (results_none rfl _ _ _) rfl ⟨rfl, unhide H, Fr.refl _ _⟩
  · have d : (e != 0) = true := bne_iff_ne.2 he
    rw [back_e he]
    go_enter Tryd.func79, Tryd.ntmps79
    go_wp2_with fail
    exact bodyPost_end (results_none rfl _ _ _) rfl ⟨rfl, (unhide H).place k0 hk, (Fr.refl _ _).place _ _⟩
set_option maxHeartbeats 1000000 in
set_option maxRecDepth 100000 in
theorem rFail_any {c : Nat} {a : Option Addr} {len cap k : Nat} {xs : List Int} {e x : Int} {W : World} (h : Cs c a len cap xs k e W) :
    Calls Tryd.prog 56 #[.pointer (some ⟨c, 0, none⟩), .int .i64 x] W fun r W' => r = .returned (.tuple #[]) ∧ Cs c a len cap xs k (if e = 0 then x else e) W' ∧ Fr [c] W W' := by
  have h2 := h.1.2.2.1
  have h3 := h.1.2.2.2 2 (by decide)
  have H := hide h
  clear h
  by_cases he : e = 0
  · subst he
    go_enter Tryd.func56, Tryd.ntmps56
    go_wp2_with fail
    exact bodyPost_end (results_none rfl _ _ _) rfl ⟨rfl, (unhide H).err x, (Fr.refl _ _).place _ _⟩
  · have d : (e == 0) = false := beq_eq_false_iff_ne.2 he
    rw [if_neg he]
    go_enter Tryd.func56, Tryd.ntmps56
    go_wp2_with fail
    exact bodyPost_end (results_none rfl _ _ _) rfl ⟨rfl, unhide H, Fr.refl _ _⟩
theorem lift_rB_in {xs : List Int} {k : Nat} (h : k < xs.length) : lift rB 0 xs k 0 = (xs.getD k 0, k + 1, 0) := by
  rw [lift_0, List.drop_eq_getElem_cons h, List.getD_eq_getElem?_getD, List.getElem?_eq_getElem h]
  rfl
theorem lift_rB_end {xs : List Int} {k : Nat} (h : xs.length ≤ k) : lift rB 0 xs k 0 = (0, k, 100) := by
  rw [lift_0, List.drop_eq_nil_of_le h]
  rfl
set_option maxHeartbeats 1000000 in
set_option maxRecDepth 100000 in
theorem rByte_any {c : Nat} {a : Option Addr} {len cap k : Nat} {xs : List Int} {e : Int} {W : World} (h : Cs c a len cap xs k e W) :
    Calls Tryd.prog 38 #[.pointer (some ⟨c, 0, none⟩)] W fun r W' => r = .returned (.int .u8 (lift rB 0 xs k e).1) ∧ Cs c a len cap xs (lift rB 0 xs k e).2.1 (lift rB 0 xs k e).2.2 W' ∧ Fr [c] W W' := by
  have h2 := h.1.2.2.1
  have H := hide h
  by_cases he : e = 0
  · subst he
    have h0 := h.1.1
    have h1 := h.1.2.1
    have h3 := h.1.2.2.2 1 (by decide)
    have h4 := h.1.2.2.2 2 (by decide)
    have hl := h.2.2.2.2.2
    have hx := h.2.1.1
    by_cases hk : k < len
    · rw [lift_rB_in (by omega)]
      have hc := h.2.1.2.1
      rcases h.2.1.2.2.2 with ⟨_, q, _⟩ | ⟨b, off, rfl, hy⟩
      · omega
      have hyk := hy k hk
      have hbc := h.2.2.1 ⟨b, off, none⟩ rfl (by omega)
      dsimp only at hbc
      clear h hy
      have hk' : ¬ (len : Int) ≤ k := by omega
      generalize xs.getD k 0 = y at *
      go_enter Tryd.func38, Tryd.ntmps38
      go_wp2_with fail
      go_quiet (fail)
      go_wp2_with fail
      have H := hide (((unhide H).bel (below_drewN (Below.refl _ _) nq)).at' (k + 1) (by omega) ((k : Int) + 1) (by omega))
      have HF := hide (((Fr.refl [c] W).drewN nq).place 1 (.int .i64 ((k : Int) + 1)))
      have hyk := (unhide HF).keep hyk (by simpa using hbc)
      obtain ⟨h0, h1, h2, hz⟩ := (unhide H).1
      clear hz h2 h3 h4
      generalize World.setCell (W.drewN nq) _ _ = w2 at *
      go_quiet (fail)
      go_wp2_with fail
      go_ret
      exact ⟨rfl, (unhide H).bel (below_drewN (Below.refl _ _) _), (unhide HF).drewN _⟩
    · obtain rfl : k = len := by have := h.2.2.2.2.1; omega
      rw [lift_rB_end (by omega)]
      clear h
      go_enter Tryd.func38, Tryd.ntmps38
      go_wp2_with fail
      go_quiet (fail)
      go_wp2_with fail
      go_ret
      exact ⟨rfl, ((unhide H).bel (below_drewN (Below.refl _ _) _)).err 100, ((Fr.refl _ _).drewN _).place _ _⟩
  · rw [lift_e _ _ _ _ he]
    clear h
    have d : (e != 0) = true := bne_iff_ne.2 he
    go_enter Tryd.func38, Tryd.ntmps38
    go_wp2_with fail
    go_ret
    exact ⟨rfl, unhide H, Fr.refl _ _⟩
end Go.Proofs.YtalahdkgigcpfaaDoor
