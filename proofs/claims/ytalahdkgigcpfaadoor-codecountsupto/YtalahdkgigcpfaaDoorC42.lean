/- CdJ. -/
import Derived.Test.YtalahdkgigcpfaaDoorC39
namespace Go.Proofs.YtalahdkgigcpfaaDoor
open Go.RowKit

set_option maxHeartbeats 2000000 in
set_option maxRecDepth 100000 in
theorem expr_any {c : Nat} {a : Option Addr} {len cap k : Nat} {xs : List Int} {sat : Bool} {e : Int} {W : World} (h : Cs c a len cap xs k e W) (hm : Mk W) (hc : 3 ≤ c) :
    Calls Tryd.prog 9 #[.pointer (some ⟨c, 0, none⟩), .bool sat] W fun r W' => ∃ p q s T t k' e', r = .returned (.slice p q s) ∧ Rd (sq sat 0 false) xs k e (T, t) k' e' ∧ (e' = 0 → Fov W' (fun b => W.heap.size ≤ b) T (.slice p q s)) ∧ (e' ≠ 0 → Value.slice p q s = .slice none 0 0) ∧ Cs c a len cap xs k' e' W' ∧ Mk W' ∧ Fr [c] W W' := by
  have HE := hide (err_any h)
  have H := hide h
  have HM := hide hm
  by_cases he : e = 0
  · have he' : (e != 0) = false := by simp [he]
    have HO : Hid (c < W.heap.size ∧ ∀ p, a = some p → 0 < len → p.block < W.heap.size) := hide ⟨h.1.lt, h.2.1.lt⟩
    clear h hm
    go_enter Tryd.func9, Tryd.ntmps9
    go_wp2_with fail
    refine (unhide HE).mono ?_
    rintro _ w1 ⟨rfl, hww⟩
    obtain rfl : W = w1 := hww.symm
    clear hww HE
    go_wp2_with fail
    have hb := below1 W (.cells #[.pointer (some ⟨c, 0, none⟩), .bool sat, .int .i64 0] 64)
    have hR : Rs c W.heap.size a len cap xs sat 0 k e (W.alloc (.cells #[.pointer (some ⟨c, 0, none⟩), .bool sat, .int .i64 0] 64)) := by
      refine ⟨(unhide H).bel hb, ⟨by simp [go_sem], by simp [go_sem], by simp [go_sem]⟩, room_cells (cs := [.pointer (some ⟨c, 0, none⟩), .bool sat, .int .i64 0]) (t := 64) W 3 (Nat.le_refl _), (unhide HM).below hb, ?_, hc, ?_, fun p hp hl => ?_⟩
      · have := (unhide HO).1; omega
      · have := (unhide HO).1; omega
      · have := (unhide HO).2 p hp hl; omega
    have HF := hide (Fr.of hb [c])
    have HS := hide hb.size
    clear hb
    generalize W.alloc (.cells #[.pointer (some ⟨c, 0, none⟩), .bool sat, .int .i64 0] 64) = w2 at *
    refine (seq_any (len - k + 1) 0 k e false w2 (by decide) (fun _ => by omega) hR).mono ?_
    rintro _ w3 ⟨p, q, s, m, T, t, k', e', rfl, hD, hV, hR, hF⟩
    have HR := hide hR
    have HD := hide hD
    have HV := hide (fun q => (hV q).1.mono (P' := fun b => W.heap.size ≤ b) (fun b _ h => Nat.le_trans (unhide HS) h))
    have HF := hide ((unhide HF).thenL hF (by simp))
    clear hR hD hV hF
    go_wp2_with fail
    refine (rfailed_any (unhide HR)).mono ?_
    rintro _ w4 ⟨rfl, hww⟩
    obtain rfl : w3 = w4 := hww.symm
    clear hww
    by_cases h' : e' = 0
    · have h'' : (e' != 0) = false := by simp [h']
      go_wp2_with fail
      go_ret
      exact ⟨p, q, s, T, t, k', e', rfl, unhide HD, unhide HV, fun q => absurd h' q, (unhide HR).cur, (unhide HR).var, unhide HF⟩
    · have h'' : (e' != 0) = true := by simp [h']
      go_wp2_with fail
      go_ret
      exact ⟨none, 0, 0, T, t, k', e', rfl, unhide HD, fun q => absurd q h', fun _ => rfl, (unhide HR).cur, (unhide HR).var, unhide HF⟩
  · have he' : (e != 0) = true := by simp [he]
    clear h hm
    go_enter Tryd.func9, Tryd.ntmps9
    go_wp2_with fail
    refine (unhide HE).mono ?_
    rintro _ w1 ⟨rfl, hww⟩
    obtain rfl : W = w1 := hww.symm
    clear hww
    go_wp2_with fail
    go_ret
    exact ⟨none, 0, 0, .nil, false, k, e, rfl, Rd.err _ he, fun q => absurd q he, fun _ => rfl, unhide H, unhide HM, Fr.refl _ _⟩
end Go.Proofs.YtalahdkgigcpfaaDoor
